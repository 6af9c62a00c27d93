import PyProof.Rows.All
import Wide.All
import OpenK.AllK
import Wide.FinOn
import HandS.Base
import HandS.Call
import HandS.List
import HandS.Comp
import HandS.Ends
import HandS.Dict
import HandS.Iter
import HandS.Text
import HandS.Words
import HandS.WordsList
import HandS.Steps
import HandS.Evl
import KE.KDictPairs
import PyProof.P3In
import HandS.Deep
import HandS.DictComp
import PyProof.RulesMatch
import PyProof.RulesMatchSeq
import PyProof.Rows.MatchSeqLen
import PyProof.Rows.TupIter
import HandS.Conv
import HandS.SortInts
import KE.KSortedM
import HandS.SortRule
import HandS.Star
import PySem.Challenge.RW_spindlegate_k38_fences_after_changes
set_option Elab.async false
set_option linter.all false
set_option maxRecDepth 100000
set_option maxHeartbeats 4000000
/-! General lemmas: readings of expressions, small heaps, lists. -/
namespace Sg
open PySem PySem.Spec PyProof.Rows L2
section
variable {σ : L2.St} {H : Hp} {ta tb te : TE} {i j : Int} {K : PySem.W.Frag} {x y z : V}
theorem v0 {g : Int → Int → V} (ha : Val ta σ H (.int i)) (hb : Val tb σ H (.int j)) : Val (tOp (rI0 g) ta tb) σ H (g i j) := val_op ha hb fun _ q => ⟨i, j, rfl, rfl, q⟩
theorem vc {C : Int → Int → Prop} {g : Int → Int → V} (ha : Val ta σ H (.int i)) (hb : Val tb σ H (.int j)) (hc : C i j) : Val (tOp (rI C g) ta tb) σ H (g i j) := val_op ha hb fun _ q => ⟨i, j, rfl, rfl, hc, q⟩
theorem vEq (ha : Val ta σ H x) (hb : Val tb σ H y) (hs : scal x y = true) : Val (tOp rEq ta tb) σ H (.bl (decide (x = y))) := val_op ha hb fun _ q => ⟨hs, q⟩
theorem vNe (ha : Val ta σ H x) (hb : Val tb σ H y) (hs : scal x y = true) : Val (tOp rNe ta tb) σ H (.bl (!decide (x = y))) := val_op ha hb fun _ q => ⟨hs, q⟩
theorem vIx {p : Addr} {xs : List V} {n : Nat} (ha : Val ta σ H (.ref p)) (hb : Val tb σ H (.int (n : Int))) (hp : SqL K H p xs) (hn : xs[n]? = some z) : Val (tOp (rIxL K) ta tb) σ H z :=
  val_op ha hb fun _ q => ⟨p, xs, _, z, rfl, rfl, hp, atI_nat hn, q⟩
theorem vIs {v w : V} (h : Val te σ H v) (e : v = w) : Val te σ H w := e ▸ h
/-- a built-in's call of one argument -/
theorem vCB1 {r : List V → Hp → VK → Prop} (ha : Val ta σ H x) (hr : ∀ Q : VK, Q z H → r [x] H Q) : Val (tCB r (tCons ta tNil)) σ H z := fun Q q => ha _ (hr Q q)
theorem vCB2 {r : List V → Hp → VK → Prop} (ha : Val ta σ H x) (hb : Val tb σ H y) (hr : ∀ Q : VK, Q z H → r [x, y] H Q) : Val (tCB r (tCons ta (tCons tb tNil))) σ H z := fun Q q => ha _ (hb _ (hr Q q))
theorem aTest {b : Bool} (h : Val te σ H (.bl b)) : Ans (tTest te) σ H b := fun Q q => h _ ⟨b, rfl, q⟩
end
theorem map_get {α β : Type} {f : α → β} {l : List α} {i : Nat} {y : β} (h : (l.map f)[i]? = some y) : ∃ z, l[i]? = some z ∧ y = f z := by
  rw [List.getElem?_map] at h
  cases e : l[i]? with
  | none =>
    rw [e] at h
    cases h
  | some z =>
    rw [e] at h
    exact ⟨z, rfl, (Option.some.inj h).symm⟩
theorem get_map {α β : Type} {f : α → β} {l : List α} {i : Nat} {z : α} (h : l[i]? = some z) : (l.map f)[i]? = some (f z) := by rw [List.getElem?_map, h]; rfl
theorem upd_two {H : Hp} {a : Addr} {o u : HO} : upd (upd H a o) a u = upd H a u := upd_upd
theorem same_new {H : Hp} {p : Addr} {o : HO} (h : H p = Option.none) : Same H (upd H p o) := fun b u e => by
  rw [upd_ne (ne_of_none e h)]
  exact e
end Sg

set_option Elab.async false
set_option linter.all false
set_option maxRecDepth 100000
set_option maxHeartbeats 4000000
/-! tuples without a dict of their own; dict(t) of such; x in t of data; d != {} -/
namespace Sg
open PySem PySem.Spec PyProof.Rows L2
def SqP (K : PySem.W.Frag) (H : Hp) (a : Addr) (xs : List V) : Prop :=
  (∃ o : Obj, H a = some (.frz o (.tup xs)) ∧ o.dict = none) ∨
    ∃ (o : Obj) (its : Array Value) (n : Nat), K.lookup a = some o ∧ o.cls = .type "tuple" ∧ o.dict = none ∧ o.data = .seq its n ∧ its.size ≤ sizeLine ∧ Vals xs its.toList
theorem SqP.t {K : PySem.W.Frag} {H : Hp} {a : Addr} {xs : List V} (h : SqP K H a xs) : SqT K H a xs := by
  rcases h with ⟨o, h, _⟩ | ⟨o, its, n, h1, h2, _, h3, h4, h5⟩
  · exact .inl (.inr ⟨o, h⟩)
  · exact .inr ⟨o, its, n, h1, h2, h3, h4, h5⟩
theorem SqP.plain {X : Cx} {pins : List (Addr × Obj)} {σ : L2.St} {H : Hp} {s : Shared} {a : Addr} {xs : List V} (I : Inv X pins σ H s) (h : SqP X.K H a xs) : ∃ its : List Value, Vals xs its ∧ PlainSeq "tuple" s.heap a its.toArray ∧ xs.length ≤ sizeLine := by
  rcases h with ⟨o, h, hd⟩ | ⟨o, its, n, h1, h2, hd, h3, h4, h5⟩
  · obtain ⟨e, z, its, r, o', e', hc, n, hdat⟩ := I.hok a _ h
    rw [e] at e'; cases e'
    exact ⟨its, r, ⟨o, n, e, hc, hd, hdat⟩, z⟩
  · refine ⟨its.toList, h5, ⟨o, n, I.kIn a o h1, h2, hd, by simpa using h3⟩, ?_⟩
    have e := h5.length
    simp only [Array.length_toList] at e
    omega
section
variable {X : Cx}
theorem pairs_of2 {pins : List (Addr × Obj)} {σ : L2.St} {H : Hp} {s : Shared} (I : Inv X pins σ H s) : ∀ {ps : List Addr} {kvs : List (Key × V)}, Paired (fun p kv => SqT X.K H p [kV kv.1, kv.2]) ps kvs →
    ∃ (prs : List (Key × Value)) (us : List (Value × Value)), KV kvs prs ∧ prs.length = ps.length ∧ us.length = ps.length ∧ ∀ (j : Nat) (k v : Value), us[j]? = some (k, v) → (∃ b : Addr, ps[j]? = some b ∧ IsTup s.heap b #[k, v]) ∧ ∃ key, prs[j]? = some (key, v) ∧ keyIs key k = true
  | _, _, .nil => ⟨[], [], .nil, rfl, rfl, fun j k v e => by simp at e⟩
  | _, _, .cons (a := p) (b := kv) h t => by
    obtain ⟨prs, us, r, hl, hl2, hp⟩ := pairs_of2 I t
    obtain ⟨its, rv, ht, _⟩ := I.tuple h
    obtain ⟨u, y, ei, ru, ry⟩ := vals2 rv
    subst ei
    refine ⟨(kv.1, y) :: prs, (u, y) :: us, .cons ⟨rfl, ry⟩ r, by rw [List.length_cons, List.length_cons, hl], by rw [List.length_cons, List.length_cons, hl2], fun j k v e => ?_⟩
    cases j with
    | zero =>
      have e' : (u, y) = (k, v) := Option.some.inj e
      cases e'
      exact ⟨⟨p, rfl, ht⟩, kv.1, rfl, kV_is (P := X.prog) (w := X.w) ru⟩
    | succ j =>
      obtain ⟨⟨b, e1, e2⟩, key, e3, e4⟩ := hp j k v (by simpa using e)
      exact ⟨⟨b, by simpa using e1, e2⟩, key, by simpa using e3, e4⟩
def rDictT (K : PySem.W.Frag) : List V → Hp → VK → Prop := fun xs H Q => ∃ (a : Addr) (ps : List Addr) (kvs : List (Key × V)), xs = [.ref a] ∧ SqP K H a (ps.map V.ref) ∧ Paired (fun p kv => SqT K H p [kV kv.1, kv.2]) ps kvs ∧
    ∀ p, H p = none → Q (.ref p) (upd H p (.dK (mergeK [] kvs)))
/-- dict(t) of a tuple of pairs -/
theorem call_dictT (hcalm : X.calm = true) : CallR X (.type "dict") (rDictT X.K) := by
  intro pins s σ H xs us Q I r q
  obtain ⟨a, ps, kvs, ex, hq, hp, q⟩ := q
  subst ex
  obtain ⟨u, eu, rx⟩ := vals1 r
  subst eu
  cases rx
  obtain ⟨its, rv, pl, hz⟩ := hq.plain I
  have ei := refs_at rv
  subst ei
  rw [List.length_map] at hz
  obtain ⟨prs, us2, rel, hl, hl2, hpr⟩ := pairs_of2 I hp
  have hh := I.ok.hd hcalm
  refine PySem.call_dict_pairs (knd := mixKind X.prog X.w) (kvs := prs) (PairArg.tuple a (ps.map Value.ref).toArray (fun j => ps.getD j 0) us2) hh ⟨pl, ?_, fun j k v e => ?_⟩ ⟨?_, fun j k v e => ?_⟩ ?_ fun h' tk hd' k => ?_
  · simp [hl2]
  · obtain ⟨⟨b, e1, e2⟩, _⟩ := hpr j k v e
    have e3 : ps.getD j 0 = b := by rw [List.getD_eq_getElem?_getD, e1]; rfl
    show _ = some (Value.ref (ps.getD j 0)) ∧ PairAt s.heap (ps.getD j 0) k v
    rw [e3]
    refine ⟨by simp [e1], .inl e2⟩
  · rw [hl, hl2]
  · obtain ⟨_, key, e3, e4⟩ := hpr j k v e
    exact ⟨key, e3, e4⟩
  · rw [hl2]; exact hz
  · have hm : (s.heap.objs.size == sysModules) = false := beq_eq_false_iff_ne.mpr (Nat.ne_of_gt I.big)
    have hlen : (mergeK [] kvs).length ≤ sizeLine := by
      refine Nat.le_trans (length_mergeK kvs []) ?_
      rw [List.length_nil, Nat.zero_add, rel.length, hl]
      exact hz
    exact ⟨.ref s.heap.objs.size, upd H s.heap.objs.size (.dK (mergeK [] kvs)), I.laid (t' := tk) (fun b o e => k b o (by simp) e) (Nat.le_refl _) (show ObjOk X.prog X.w _ _ _ (.dK (mergeK [] kvs)) from ⟨hlen, hm, merged [] prs, KV.merge rel .nil, hd'⟩), rfl, q _ (I.hok.fresh (Nat.le_refl _))⟩
/-- tuple(l) of a list: a new tuple without a dict of its own -/
def rTupP (K : PySem.W.Frag) : List V → Hp → VK → Prop := fun xs H Q => ∃ p ys, xs = [.ref p] ∧ SqL K H p ys ∧ ∀ (l : Addr) (o : Obj), H l = none → o.dict = none → Q (.ref l) (upd H l (.frz o (.tup ys)))
theorem call_tupP : CallR X (.type "tuple") (rTupP X.K) := by
  intro pins s σ H xs us Q I r h
  obtain ⟨p, ys, rfl, hq, q⟩ := h
  obtain ⟨u, rfl, rx⟩ := vals1 r
  cases rx
  obtain ⟨its, r', pl, hz⟩ := I.list hq
  have hlen := r'.length
  refine call_tuple_list pl.isList (fun h' kp => ?_) (by simp only [List.size_toArray] <;> omega)
  have I1 : Inv X pins σ H { s with heap := h' } := I.kept (t' := s.toks) kp
  have hget : (h'.push { cls := .type "tuple", data := .seq its.toArray }).get? h'.objs.size = some { cls := .type "tuple", data := .seq its.toArray } := Heap.get?_push_size _ rfl
  have I2 : Inv X pins σ (upd H h'.objs.size (.frz { cls := .type "tuple", data := .seq its.toArray } (.tup ys))) { s with heap := h'.push { cls := .type "tuple", data := .seq its.toArray } } :=
    I1.laid (t' := s.toks) (fun b o e => Heap.get?_push_of_some _ e) (Nat.le_refl _) (show ObjOk X.prog X.w _ _ _ (.frz { cls := .type "tuple", data := .seq its.toArray } (.tup ys)) from ⟨hget, hz, its, r', IsTup.new _ _⟩)
  exact ⟨.ref h'.objs.size, _, I2, rfl, q _ _ (I1.hok.fresh (Nat.le_refl _)) rfl⟩
/-- x in t, data of any depth -/
def rInT (K : PySem.W.Frag) : R2 := fun x y H Q => ∃ d ds, Dp K H x d ∧ Dp K H y (.tuple ds) ∧ SeqAt.shaped d = true ∧ SeqAt.shaped (.tuple ds) = true ∧ Q (.bl (ds.any fun z => PyData.eqv z d)) H
theorem op_inT (hu : X.A.units + 65 < cLine) : OpR X (compareOp .In) (rInT X.K) := by
  intro pins s σ H x y v u Q I rx ry h
  obtain ⟨d, ds, hd, he, sd, se, q⟩ := h
  obtain ⟨as, r1⟩ := Dp.reads I d x v hd rx
  obtain ⟨bs, r2⟩ := Dp.reads I (.tuple ds) y u he ry
  exact SeqAt.in_tuple_reads r2 r1 (SeqAt.canLay_of_shaped se) (SeqAt.canLay_of_shaped sd) (room_in_shaped sd hu) ⟨.bl _, H, I, rfl, q⟩
/-- d != {} -/
def rNeE : R2 := fun x y H Q => ∃ a b ks, x = .ref a ∧ y = .ref b ∧ H a = some (.dK ks) ∧ H b = some (.dK []) ∧ Q (.bl (!ks.isEmpty)) H
theorem op_neE (hu : X.A.units < cLine) : OpR X (compareOp .NotEq) rNeE := by
  intro pins s σ H x y v u Q I rx ry h
  obtain ⟨a, b, ks, rfl, rfl, ea, eb, q⟩ := h
  obtain rfl : v = Value.ref a := rx
  obtain rfl : u = Value.ref b := ry
  obtain ⟨_, ya, va, ra, da⟩ := (show ObjOk X.prog X.w H s.heap a (.dK ks) from I.hok a _ ea)
  obtain ⟨_, yb, vb, rb, db⟩ := (show ObjOk X.prog X.w H s.heap b (.dK []) from I.hok b _ eb)
  cases rb
  cases ra with
  | nil => exact PySem.W.keq_ne (knd := mixKind X.prog X.w) (r := true) ya yb da db hu (fun _ => hits_all (ks := []) (kvs := []) .nil .nil (fun p hp => nomatch hp)) (fin_bl I q (by simp))
  | cons h t => exact PySem.W.keq_ne (knd := mixKind X.prog X.w) (r := true) ya yb da db hu (fun e => by simp at e) (fin_bl I q (by simp))
end
end Sg

set_option Elab.async false
set_option linter.all false
set_option maxRecDepth 100000
set_option maxHeartbeats 4000000
/-! match: patterns by values, what they bind by the names' places -/
namespace Sg
open PySem PySem.Spec PyProof.Rows L2
def BindOk (X : Cx) (b : Str × Value) (c : Nat × V) : Prop := X.N[c.1]? = some b.1 ∧ Loc X.env.scope b.1 ∧ (X.fn b.1 = true ∨ X.env.scope.names.lookup b.1 = some .local) ∧ RelV c.2 b.2
inductive OB (X : Cx) : Option (List (Str × Value)) → Option (List (Nat × V)) → Prop
  | none : OB X none none
  | some {bs cs} : Paired (BindOk X) bs cs → OB X (some bs) (some cs)
abbrev TPt := V → Hp → (Option (List (Nat × V)) → Prop) → Prop
abbrev TPts := List V → Hp → (Option (List (Nat × V)) → Prop) → Prop
structure PPt (X : Cx) (p : Pattern) (t : TPt) : Prop where
  run : ∀ (pins : List (Addr × Obj)) (s : Shared) (σ : L2.St) (H : Hp) (v : V) (u : Value) (Q : Option (List (Nat × V)) → Prop), Inv X pins σ H s → RelV v u → t v H Q →
    wpAny (model X.prog X.w) X.A (matchPattern p X.env u) (fun r s' => ∃ o, Inv X pins σ H s' ∧ OB X r o ∧ Q o) X.xe s
structure PPts (X : Cx) (ps : List Pattern) (t : TPts) : Prop where
  run : ∀ (pins : List (Addr × Obj)) (s : Shared) (σ : L2.St) (H : Hp) (vs : List V) (us : List Value) (Q : Option (List (Nat × V)) → Prop), Inv X pins σ H s → Vals vs us → t vs H Q →
    wpAny (model X.prog X.w) X.A (matchEach ps X.env us) (fun r s' => ∃ o, Inv X pins σ H s' ∧ OB X r o ∧ Q o) X.xe s
def mWild : TPt := fun _ _ Q => Q (some [])
def mCap (i : Nat) : TPt := fun v _ Q => Q (some [(i, v)])
def mStr (x : Str) : TPt := fun v _ Q => ∃ y, v = .str y ∧ Q (if y = x then some [] else none)
def mNone : TPt := fun v _ Q => Q (if v = .non then some [] else none)
def mBool (b : Bool) : TPt := fun v _ Q => ∃ c, v = .bl c ∧ Q (if c = b then some [] else none)
def mNil : TPts := fun _ _ Q => Q (some [])
def mCons (t : TPt) (u : TPts) : TPts := fun vs H Q => ∃ v r, vs = v :: r ∧ t v H fun o => match o with
  | none => Q none
  | some bs => u r H fun o' => match o' with
    | none => Q none
    | some cs => Q (some (bs ++ cs))
def mSeq (K : PySem.W.Frag) (n : Nat) (t : TPts) : TPt := fun v H Q => ∃ a xs, v = .ref a ∧ SqT K H a xs ∧ (xs.length = n → t xs H Q) ∧ (xs.length ≠ n → Q none)
theorem Paired.app {α β : Type} {F : α → β → Prop} : ∀ {a : List α} {b : List β} {c : List α} {d : List β}, Paired F a b → Paired F c d → Paired F (a ++ c) (b ++ d)
  | _, _, _, _, .nil, q => q
  | _, _, _, _, .cons r t, q => .cons r (Paired.app t q)
section
variable {X : Cx}
theorem mp_wild {pos : Pos} : PPt X (.MatchAs none none pos) mWild := ⟨fun pins s σ H v u Q I r h => wpAny_matchPattern_Capture ⟨_, I, .some .nil, h⟩⟩
theorem mp_cap {i : Nat} {x : Str} {pos : Pos} (hi : X.N[i]? = some x) (hx : Loc X.env.scope x) (hf : X.fn x = true ∨ X.env.scope.names.lookup x = some .local := by first | exact .inl rfl | exact .inr rfl | assumption) : PPt X (.MatchAs none (some x) pos) (mCap i) :=
  ⟨fun pins s σ H v u Q I r h => wpAny_matchPattern_Capture ⟨_, I, .some (.cons ⟨hi, hx, hf, r⟩ .nil), h⟩⟩
theorem mp_str {x : Str} {j : Nat} {p pos : Pos} : PPt X (.MatchValue (.Constant (.str x) j p) pos) (mStr x) := by
  refine ⟨fun pins s σ H v u Q I r h => ?_⟩
  obtain ⟨y, rfl, q⟩ := h
  refine wpAny_matchPattern_Value (thn ((pe_str (X := X)).run pins s σ H (fun v' H' => v' = .str x ∧ H' = H) I ⟨rfl, rfl⟩) fun u2 s2 ⟨v2, H2, I2, r2, e2, e3⟩ => ?_)
  subst e2 e3
  refine thn (op_eq (X := X) pins s2 σ H2 (.str y) (.str x) u u2 (fun v' H' => v' = .bl (decide (V.str y = V.str x)) ∧ H' = H2) I2 r r2 ⟨rfl, rfl, rfl⟩) fun c s3 ⟨v3, H3, I3, r3, e4, e5⟩ => ?_
  subst e4 e5
  cases r3
  refine wpAny_truthy_bool ?_
  by_cases e : y = x
  · subst e
    rw [decide_eq_true rfl]
    rw [if_pos rfl] at q
    exact ⟨_, I3, .some .nil, q⟩
  · rw [decide_eq_false (fun z => e (by cases z; rfl))]
    rw [if_neg e] at q
    exact ⟨_, I3, .none, q⟩
theorem mp_none {pos : Pos} : PPt X (.MatchSingleton .none pos) mNone := by
  refine ⟨fun pins s σ H v u Q I r h => ?_⟩
  rw [arm_matchPattern_MatchSingleton]
  refine wpAny_pure ?_
  cases v with
  | non => cases r; exact ⟨_, I, .some .nil, h⟩
  | bl b => cases r; exact ⟨_, I, .none, h⟩
  | int i => obtain ⟨t, rfl⟩ := r; exact ⟨_, I, .none, h⟩
  | str i => obtain ⟨t, rfl⟩ := r; exact ⟨_, I, .none, h⟩
  | byt i => obtain ⟨t, rfl⟩ := r; exact ⟨_, I, .none, h⟩
  | flt i => obtain ⟨t, rfl⟩ := r; exact ⟨_, I, .none, h⟩
  | ref a => cases r; exact ⟨_, I, .none, h⟩
  | ty n => cases r; exact ⟨_, I, .none, h⟩
theorem mp_bool {b : Bool} {pos : Pos} : PPt X (.MatchSingleton (.bool b) pos) (mBool b) := by
  refine ⟨fun pins s σ H v u Q I r h => ?_⟩
  obtain ⟨c, rfl, q⟩ := h
  cases r
  rw [arm_matchPattern_MatchSingleton]
  refine wpAny_pure ?_
  cases b <;> cases c
  · exact ⟨_, I, .some .nil, q⟩
  · exact ⟨_, I, .none, q⟩
  · exact ⟨_, I, .none, q⟩
  · exact ⟨_, I, .some .nil, q⟩
theorem mps_nil : PPts X [] mNil := ⟨fun pins s σ H vs us Q I r h => wpAny_matchEach_nil ⟨_, I, .some .nil, h⟩⟩
theorem mps_cons {p : Pattern} {ps : List Pattern} {t : TPt} {u : TPts} (h1 : PPt X p t) (h2 : PPts X ps u) (hp : p.isStar = false := by rfl) : PPts X (p :: ps) (mCons t u) := by
  refine ⟨fun pins s σ H vs us Q I r h => ?_⟩
  obtain ⟨v, vr, rfl, h⟩ := h
  cases r with
  | cons r0 rr =>
    refine wpAny_matchEach_cons (thn (h1.run pins s σ H v _ _ I r0 h) fun r1 s1 ⟨o, I1, ob, q⟩ => ?_) hp
    cases ob with
    | none => exact ⟨_, I1, .none, q⟩
    | some pr =>
      refine thn (h2.run pins s1 σ H vr _ _ I1 rr q) fun r2 s2 ⟨o2, I2, ob2, q2⟩ => ?_
      cases ob2 with
      | none => exact ⟨_, I2, .none, q2⟩
      | some pr2 => exact ⟨_, I2, .some (Paired.app pr pr2), q2⟩
theorem mp_seq {ps : List Pattern} {pos : Pos} {t : TPts} {n : Nat} (hc : X.calm = true) (hs : PPts X ps t) (hn : ps.length = n := by rfl) (hstar : ps.findIdx? (·.isStar) = none := by rfl)
    (hwild : (ps.all fun p => p.isWildcard || (p.isStar && p.names.isEmpty)) = false := by rfl) : PPt X (.MatchSequence ps pos) (mSeq X.K n t) := by
  refine ⟨fun pins s σ H v u Q I r h => ?_⟩
  obtain ⟨a, xs, rfl, hq, h1, h2⟩ := h
  cases r
  obtain ⟨its, rv, ht, hz⟩ := I.tuple hq
  have hl : its.toArray.size = xs.length := by rw [List.size_toArray]; exact rv.length.symm
  have h63 := line63
  by_cases e : xs.length = n
  · refine matchSeq_tuple_hit ht (by rw [hl]; omega) (by rw [hl, hn]; exact e) ?_ hstar hwild
    rw [show ps.length = its.toArray.size by rw [hl, hn, e]]
    have I1 : Inv X pins σ H { s with toks := s.toks + 1 + 1 } := I.tok _
    refine unpackItems_tuple (I.ok.hd hc) ht fun h' hx => ?_
    have I2 : Inv X pins σ H { s with heap := h', toks := s.toks + 1 + 1 } := I.kept (t' := s.toks + 1 + 1) fun b o e => hx b o (Nat.ne_of_lt (Heap.lt_size e)) e
    exact hs.run pins _ σ H xs _ Q I2 rv (h1 e)
  · exact matchSeq_tuple_miss ht (by rw [hl]; omega) (by rw [hl, hn]; exact e) ⟨_, I.tok _, .none, h2 e⟩ hstar hwild
/-! ### the cases -/
abbrev TCs := V → TS
structure PCs (X : Cx) (cs : List MatchCase) (t : TCs) : Prop where
  run : ∀ (pins : List (Addr × Obj)) (s : Shared) (σ : L2.St) (H : Hp) (D : Ends) (v : V) (u : Value) (first : Bool), Inv X pins σ H s → RelV v u → t v D σ H →
    wpAny (model X.prog X.w) X.A (matchCases cs X.env u first) (SP X pins D) X.xe s
def setAll (σ : L2.St) (bs : List (Nat × V)) : L2.St := bs.foldl (fun s b => s.set b.1 (some b.2)) σ
def cNil : TCs := fun _ D σ H => D.nx σ H
def cCons (tp : TPt) (tb : TS) (rest : TCs) : TCs := fun v D σ H => tp v H fun o => match o with
  | none => rest v D σ H
  | some bs => tb D (setAll σ bs) H
theorem pcs_nil : PCs X [] cNil := ⟨fun pins s σ H D v u f I r h => wpAny_matchCases_nil ⟨σ, H, I, h⟩⟩
theorem bind_all (hN : X.N.Nodup) {pins : List (Addr × Obj)} {H : Hp} : ∀ {bs : List (Str × Value)} {cs : List (Nat × V)}, Paired (BindOk X) bs cs → ∀ {σ : L2.St} {s : Shared} {Q : Unit → Shared → Prop}, Inv X pins σ H s →
    (∀ s', Inv X pins (setAll σ cs) H s' → Q () s') → wpAny (model X.prog X.w) X.A (assignInOrder (bs.map fun (n, _) => bindName X.env n) (bs.map (·.2))) Q X.xe s
  | _, _, .nil, σ, s, Q, I, h => wpAny_assignInOrder_none (h s I)
  | _, _, .cons (a := b) (b := c) r t, σ, s, Q, I, h => by
    obtain ⟨x, u⟩ := b
    obtain ⟨i, v⟩ := c
    obtain ⟨h1, h2, h3, h4⟩ := r
    refine wpAny_assignInOrder_more (wpAny_bindName (store_ok I hN h1 h2 h4 (fun s' I' => ?_) h3))
    exact bind_all hN t I' h
theorem pcs_cons {p : Pattern} {body : List Stmt} {rest : List MatchCase} {tp : TPt} {tb : TS} {tr : TCs} (hN : X.N.Nodup) (hp : PPt X p tp) (hb : PSs X body tb) (hr : PCs X rest tr) : PCs X (⟨p, none, body⟩ :: rest) (cCons tp tb tr) := by
  refine ⟨fun pins s σ H D v u f I r h => ?_⟩
  refine wpAny_matchCases_cons (thn (hp.run pins s σ H v u _ I r h) fun o s1 ⟨c, I1, ob, q⟩ => ?_)
  cases ob with
  | none => exact hr.run pins s1 σ H D v u false I1 r q
  | some pr => exact bind_all hN pr I1 fun s' I' => hb.run pins s' _ H D I' q
def tMatch (te : TE) (tc : TCs) : TS := fun D σ H => te σ H fun v H1 => tc v D σ H1
theorem ps_match {e : Expr} {cs : List MatchCase} {pos : Pos} {te : TE} {tc : TCs} (he : PE X e te) (hc : PCs X cs tc) : PS X (.Match e cs pos) (tMatch te tc) := by
  refine ⟨fun pins s σ H D I h => ?_⟩
  exact wpAny_Match (thn (he.run pins s σ H _ I h) fun u s1 ⟨v, H1, I1, r1, q1⟩ => hc.run pins s1 σ H1 D v u true I1 r1 q1)
end
end Sg

set_option Elab.async false
set_option linter.all false
set_option maxRecDepth 100000
namespace Sg
open PySem PySem.Spec PyProof.Rows L2
def top (i : Nat) : Stmt := PySem.Challenge.pw_spindlegate_k38_fences_after_changes.main.body.getD i (.Pass ⟨0, 0, 0, 0⟩)
abbrev sKeyOf : Stmt := top 5
abbrev sHolderWay : Stmt := top 6
abbrev sRefusal : Stmt := top 7
abbrev sWithKey : Stmt := top 8
abbrev sWithoutKey : Stmt := top 9
abbrev sWithHolder : Stmt := top 10
abbrev sRefusesKey : Stmt := top 11
abbrev sKeepsOut : Stmt := top 12
abbrev sRefReg : Stmt := top 13
abbrev sRefPre : Stmt := top 14
abbrev sNext : Stmt := top 16
abbrev sCommand : Stmt := top 17
abbrev sLFence : Stmt := top 18
abbrev sDueHold : Stmt := top 19
abbrev sDue : Stmt := top 20
abbrev sCarry : Stmt := top 21
abbrev sChange : Stmt := top 22
abbrev sLaw : Stmt := top 23
end Sg

set_option Elab.async false
set_option linter.all false
set_option maxRecDepth 100000
set_option maxHeartbeats 4000000
namespace Sg
open PySem PySem.Spec PyProof.Rows L2
structure Def (P : Program) (wd : World) (K : PySem.W.Frag) (mg : Str → Option Value) (base : Heap) (CX : CXT) (x : Str) (k : Nat) (ps : List Str) (sp : Sp) (f : Addr) (fd : FuncData) : Prop where
  ok : FnOk P wd K mg base CX k f fd ps sp
  bd : Binds K fd ps []
  kp : PySem.W.keepIn K (.ref f) = true
  mg : mg x = some (.ref f)
/-! ### what is kept -/
/-- every tuple is kept -/
structure TK (H H' : Hp) : Prop where
  t : ∀ a xs, H a = some (.tup xs) → H' a = some (.tup xs)
  f : ∀ a o xs, H a = some (.frz o (.tup xs)) → H' a = some (.frz o (.tup xs))
theorem TK.refl (H : Hp) : TK H H := ⟨fun _ _ h => h, fun _ _ _ h => h⟩
theorem TK.trans {H H1 H2 : Hp} (a : TK H H1) (b : TK H1 H2) : TK H H2 := ⟨fun x y h => b.t _ _ (a.t _ _ h), fun x y z h => b.f _ _ _ (a.f _ _ _ h)⟩
theorem TK.of {H H' : Hp} (s : Same H H') : TK H H' := ⟨fun _ _ h => s _ _ h, fun _ _ _ h => s _ _ h⟩
def Off (xs : List Addr) (H H' : Hp) : Prop := ∀ b o, H b = some o → b ∉ xs → H' b = some o
theorem Off.refl {xs : List Addr} (H : Hp) : Off xs H H := fun _ _ h _ => h
theorem Off.trans {xs : List Addr} {H H1 H2 : Hp} (a : Off xs H H1) (b : Off xs H1 H2) : Off xs H H2 := fun x o h n => b _ _ (a _ _ h n) n
theorem Off.of {xs : List Addr} {H H' : Hp} (s : Same H H') : Off xs H H' := fun _ _ h _ => s _ _ h
theorem Off.upd {xs : List Addr} {H : Hp} {p : Addr} {o : HO} (h : p ∈ xs) : Off xs H (upd H p o) := fun b u e n => by
  rw [upd_ne (fun (z : b = p) => n (by rw [z]; exact h))]; exact e
/-- lists and dicts alone were changed -/
theorem TK.off {xs : List Addr} {H H' : Hp} (o : Off xs H H') (h : ∀ x ∈ xs, (∃ l, H x = some (.lst l)) ∨ ∃ d, H x = some (.dK d)) : TK H H' := by
  refine ⟨fun a l e => o _ _ e fun m => ?_, fun a b l e => o _ _ e fun m => ?_⟩
  · rcases h a m with ⟨z, q⟩ | ⟨z, q⟩ <;> (rw [e] at q; cases q)
  · rcases h a m with ⟨z, q⟩ | ⟨z, q⟩ <;> (rw [e] at q; cases q)
section
variable {K : PySem.W.Frag} {H H' : Hp}
theorem sqT_tk {a : Addr} {xs : List V} (h : SqT K H a xs) (s : TK H H') : SqT K H' a xs := by
  rcases h with (h | ⟨o, h⟩) | h
  · exact .inl (.inl (s.t _ _ h))
  · exact .inl (.inr ⟨o, s.f _ _ _ h⟩)
  · exact .inr h
theorem SqP.tk {a : Addr} {xs : List V} (h : SqP K H a xs) (s : TK H H') : SqP K H' a xs := by
  rcases h with ⟨o, h, hd⟩ | h
  · exact .inl ⟨o, s.f _ _ _ h, hd⟩
  · exact .inr h
end
theorem Paired.imp2 {α β : Type} {F G : α → β → Prop} (f : ∀ a b, F a b → G a b) : ∀ {l : List α} {m : List β}, Paired F l m → Paired G l m
  | _, _, .nil => .nil
  | _, _, .cons r t => .cons (f _ _ r) (Paired.imp2 f t)
theorem Paired.mapR {α β γ : Type} {F : α → β → Prop} {G : α → γ → Prop} {g : β → γ} (f : ∀ a b, F a b → G a (g b)) : ∀ {l : List α} {m : List β}, Paired F l m → Paired G l (m.map g)
  | _, _, .nil => .nil
  | _, _, .cons r t => .cons (f _ _ r) (Paired.mapR f t)
/-! ### keys -/
def kvsOf (ks : List (Int × Int)) : List (Key × V) := ks.map fun x => (Sum.inl x.1, V.int x.2)
def look (ks : List (Int × Int)) (h : Int) : Option Int := (ks.find? fun x => decide (x.1 = h)).map (·.2)
def optI : Option Int → V
  | none => .non
  | some i => .int i
def KNd (ks : List (Int × Int)) : Prop := (ks.map (·.1)).Nodup
theorem look_nil {h : Int} : look [] h = none := rfl
theorem look_pos {k v : Int} {ks : List (Int × Int)} : look ((k, v) :: ks) k = some v := by simp [look, List.find?_cons]
theorem look_neg {k v h : Int} {ks : List (Int × Int)} (e : ¬ k = h) : look ((k, v) :: ks) h = look ks h := by simp [look, List.find?_cons, e]
theorem val_look (h : Int) : ∀ ks : List (Int × Int), valV (kvsOf ks) (Sum.inl h) = (look ks h).map V.int
  | [] => rfl
  | (k, v) :: ks => by
    by_cases e : k = h
    · subst e
      rw [look_pos]
      exact valV_pos (p := (Sum.inl k, V.int v)) (r := kvsOf ks) rfl
    · rw [look_neg e, ← val_look h ks]
      exact valV_neg (p := (Sum.inl k, V.int v)) (r := kvsOf ks) (fun z => e (Sum.inl.inj z))
theorem val_opt (h : Int) (ks : List (Int × Int)) : (valV (kvsOf ks) (Sum.inl h)).getD .non = optI (look ks h) := by
  rw [val_look]
  cases look ks h <;> rfl
theorem put_new {kvs : List (Key × V)} {k : Key} {v : V} (h : valV kvs k = none) : putK kvs k v = kvs ++ [(k, v)] := by
  unfold putK
  rw [if_neg]
  rw [valV_any, h]
  exact Bool.false_ne_true
theorem merge_nd : ∀ (ks : List (Int × Int)) (acc : List (Key × V)), (∀ x ∈ ks, valV acc (Sum.inl x.1) = none) → KNd ks → mergeK acc (kvsOf ks) = acc ++ kvsOf ks
  | [], acc, _, _ => by simp [mergeK, kvsOf]
  | (k, v) :: ks, acc, h, nd => by
    have nd' : k ∉ ks.map (·.1) ∧ KNd ks := List.nodup_cons.mp nd
    have h0 : valV acc (Sum.inl k) = none := h (k, v) List.mem_cons_self
    show mergeK (putK acc (Sum.inl k) (.int v)) (kvsOf ks) = acc ++ (Sum.inl k, V.int v) :: kvsOf ks
    rw [put_new h0, merge_nd ks _ (fun x hx => ?_) nd'.2]
    · simp
    · rw [valV_snoc _ _ _ _ h0, if_neg]
      · exact h x (List.mem_cons_of_mem _ hx)
      · intro z
        exact nd'.1 (Sum.inl.inj z ▸ List.mem_map.mpr ⟨x, hx, rfl⟩)
theorem merge_nd0 {ks : List (Int × Int)} (nd : KNd ks) : mergeK [] (kvsOf ks) = kvsOf ks := merge_nd ks [] (fun _ _ => rfl) nd
/-! ### fences -/
def RegsAt (K : PySem.W.Frag) (H : Hp) (r : Addr) (rs : List (Int × Int)) : Prop := ∃ ps : List Addr, SqP K H r (ps.map V.ref) ∧ Paired (fun (p : Addr) (x : Int × Int) => H p = some (.tup [.int x.1, .int x.2])) ps rs
def HoldV (K : PySem.W.Frag) (H : Hp) (v : V) : Option (Int × Str) → Prop
  | none => v = .non
  | some (h, w) => ∃ q, v = .ref q ∧ SqT K H q [.int h, .str w] ∧ PyData.strOk w = true
def FenceAt (K : PySem.W.Frag) (H : Hp) (v : V) (rs : List (Int × Int)) (hd : Option (Int × Str)) : Prop := ∃ a r hv, v = .ref a ∧ SqT K H a [.ref r, hv] ∧ RegsAt K H r rs ∧ HoldV K H hv hd
section
variable {K : PySem.W.Frag} {H H' : Hp}
theorem RegsAt.tk {r : Addr} {rs : List (Int × Int)} (h : RegsAt K H r rs) (s : TK H H') : RegsAt K H' r rs := by
  obtain ⟨ps, a, b⟩ := h
  exact ⟨ps, a.tk s, Paired.imp2 (fun _ _ q => s.t _ _ q) b⟩
theorem HoldV.tk {v : V} {hd : Option (Int × Str)} (h : HoldV K H v hd) (s : TK H H') : HoldV K H' v hd := by
  cases hd with
  | none => exact h
  | some x => obtain ⟨q, a, b, c⟩ := h; exact ⟨q, a, sqT_tk b s, c⟩
theorem FenceAt.tk {v : V} {rs : List (Int × Int)} {hd : Option (Int × Str)} (h : FenceAt K H v rs hd) (s : TK H H') : FenceAt K H' v rs hd := by
  obtain ⟨a, r, hv, e, h1, h2, h3⟩ := h
  exact ⟨a, r, hv, e, sqT_tk h1 s, h2.tk s, h3.tk s⟩
end
/-! ### what is due -/
def wayV (hd : Option (Int × Str)) (h : Int) : V := match hd with
  | none => .non
  | some (g, w) => if g = h then .str w else .non
def strIn (s : Str) (ns : List Str) : Bool := ns.any fun y => decide (y = s)
theorem inV_str {s : Str} : ∀ {ns : List Str}, inV (.str s) (ns.map V.str) = strIn s ns
  | [] => rfl
  | n :: ns => by
    show (eqV (.str n) (.str s) || inV (.str s) (ns.map V.str)) = (decide (n = s) || strIn s ns)
    rw [inV_str (ns := ns)]
    rfl
theorem flat_strs : ∀ {ns : List Str}, (ns.map V.str).all flatV = true
  | [] => rfl
  | n :: ns => by rw [List.map_cons, List.all_cons, flat_strs (ns := ns)]; rfl
theorem str_eqT {x : Str} : decide (V.str x = V.str x) = true := decide_eq_true rfl
theorem str_eqF {x y : Str} (h : ¬ x = y) : decide (V.str x = V.str y) = false := decide_eq_false (fun z => h (by cases z; rfl))
abbrev readingL : List Str := ["read", "view"]
abbrev changingL : List Str := ["write", "trim", "snap", "drop", "remove"]
abbrev registeredL : List Str := ["leave", "reserve", "release", "preempt"]
/-- the key refuses -/
def keyBad (ks : List (Int × Int)) (h : Int) (key : Option Int) (word : Str) : Bool := match key with
  | some k => !decide (look ks h = some k)
  | none => if word = "register" then false else (look ks h).isSome || (!ks.isEmpty && !strIn word readingL)
/-- the reservation keeps out -/
def keepsOut (hd : Option (Int × Str)) (h : Int) (word : Str) : Bool := match hd with
  | none => false
  | some (g, w) => if g = h then false else strIn word changingL || (strIn word readingL && decide (w = "alone"))
abbrev namesL : List Str := ["write", "trim", "read", "snap", "view", "drop", "remove", "register", "leave", "reserve", "release", "preempt"]
/-- what a command has behind its name -/
structure CmdOk (word : Str) (rest : List V) : Prop where
  res : word = "reserve" → ∃ n w, rest = [.int n, .str w] ∧ PyData.strOk w = true
  pre : word = "preempt" → ∃ n v, rest = [.int n, .int v]
  rel : word = "release" → ∃ n, rest = [.int n]
  nm : strIn word namesL = true
def secS : List V → Str
  | [_, .str w] => w
  | _ => ""
def secI : List V → Int
  | [_, .int v] => v
  | _ => 0
def preDue (ks : List (Int × Int)) (h v : Int) : Str := if v = h then "conflict" else if look ks v = none then "none" else ""
def regDue (ks : List (Int × Int)) (hd : Option (Int × Str)) (h : Int) (word : Str) (rest : List V) : Str :=
  if look ks h = none then "conflict"
  else if word = "reserve" then (if hd = none ∨ hd = some (h, secS rest) then "" else "conflict")
  else if word = "release" then (if wayV hd h = .non then "conflict" else "")
  else if word = "preempt" then preDue ks h (secI rest)
  else ""
def due (ks : List (Int × Int)) (hd : Option (Int × Str)) (h : Int) (key : Option Int) (word : Str) (rest : List V) : Str :=
  if keyBad ks h key word || keepsOut hd h word then "conflict" else if strIn word registeredL then regDue ks hd h word rest else ""
def idle (ks : List (Int × Int)) (hd : Option (Int × Str)) (h : Int) (word : Str) (rest : List V) : Bool :=
  (decide (word = "register") && (look ks h).isSome) || (decide (word = "reserve") && decide (hd = some (h, secS rest)))
theorem due_congr {ks ls : List (Int × Int)} (e : ∀ h, look ks h = look ls h) (e2 : ks.isEmpty = ls.isEmpty) (hd h key word rest) : due ks hd h key word rest = due ls hd h key word rest := by
  unfold due regDue preDue keyBad
  simp only [e, e2]
theorem idle_congr {ks ls : List (Int × Int)} (e : ∀ h, look ks h = look ls h) (hd h word rest) : idle ks hd h word rest = idle ls hd h word rest := by
  unfold idle
  simp only [e]
end Sg

set_option Elab.async false
set_option linter.all false
set_option maxRecDepth 100000
set_option maxHeartbeats 4000000
namespace Sg
open PySem PySem.Spec PyProof.Rows L2
structure FX (K : PySem.W.Frag) (mg : Str → Option Value) (aR aC aO : Addr) : Prop where
  dict : mg "dict" = none
  len : mg "len" = none
  gR : mg "READING" = some (.ref aR)
  sR : ∀ H, SqT K H aR (readingL.map V.str)
  gC : mg "CHANGING" = some (.ref aC)
  sC : ∀ H, SqT K H aC (changingL.map V.str)
  gO : mg "OF_REGISTERED" = some (.ref aO)
  sO : ∀ H, SqT K H aO (registeredL.map V.str)
def spKeyOf (K : PySem.W.Frag) : Sp := fun vs H Q _ => ∃ fv h rs hd, vs = [fv, .int h] ∧ FenceAt K H fv rs hd ∧ KNd rs ∧ ∀ H', Same H H' → Q (optI (look rs h)) H'
def spWay (K : PySem.W.Frag) : Sp := fun vs H Q _ => ∃ fv h rs hd, vs = [fv, .int h] ∧ FenceAt K H fv rs hd ∧ Q (wayV hd h) H
def spKeyBad (K : PySem.W.Frag) : Sp := fun vs H Q _ => ∃ fv h key word rs hd, vs = [fv, .int h, optI key, .str word] ∧ FenceAt K H fv rs hd ∧ KNd rs ∧ ∀ H', Same H H' → Q (.bl (keyBad rs h key word)) H'
def spKeeps (K : PySem.W.Frag) : Sp := fun vs H Q _ => ∃ fv h word rs hd, vs = [fv, .int h, .str word] ∧ FenceAt K H fv rs hd ∧ Q (.bl (keepsOut hd h word)) H
def spPre (K : PySem.W.Frag) : Sp := fun vs H Q _ => ∃ fv h v rs hd, vs = [fv, .int h, .int v] ∧ FenceAt K H fv rs hd ∧ KNd rs ∧ ∀ H', Same H H' → Q (.str (preDue rs h v)) H'
def spReg (K : PySem.W.Frag) : Sp := fun vs H Q _ => ∃ fv h c word rest rs hd, vs = [fv, .int h, .ref c] ∧ FenceAt K H fv rs hd ∧ KNd rs ∧ SqT K H c (.str word :: rest) ∧ CmdOk word rest ∧ ∀ H', Same H H' → Q (.str (regDue rs hd h word rest)) H'
def spRefusal (K : PySem.W.Frag) : Sp := fun vs H Q _ => ∃ fv h key c word rest rs hd, vs = [fv, .int h, optI key, .ref c] ∧ FenceAt K H fv rs hd ∧ KNd rs ∧ SqT K H c (.str word :: rest) ∧ CmdOk word rest ∧ ∀ H', Same H H' → Q (.str (due rs hd h key word rest)) H'
def spNothing (K : PySem.W.Frag) : Sp := fun vs H Q _ => ∃ fv h c word rest rs hd, vs = [fv, .int h, .ref c] ∧ FenceAt K H fv rs hd ∧ KNd rs ∧ SqT K H c (.str word :: rest) ∧ CmdOk word rest ∧ ∀ H', Same H H' → Q (.bl (idle rs hd h word rest)) H'
theorem opt_non (o : Option Int) : decide (optI o = V.non) = o.isNone := by cases o <;> rfl
theorem opt_eq (a b : Option Int) : decide (optI a = optI b) = decide (a = b) := by
  cases a <;> cases b <;> simp [optI]
theorem opt_scal (a b : Option Int) : scal (optI a) (optI b) = true := by cases a <;> cases b <;> rfl
section
variable {P : Program} {wrl : World} {K : PySem.W.Frag} {mg : Str → Option Value} {base : Heap} {f aR aC aO fK fW fB fO fG fP : Addr} {fd fdK fdW fdB fdO fdG fdP : FuncData}
theorem scKeyOf : FnScope ["fence", "host", "registrations", "_"] ["fence", "host"] (defScope sKeyOf) := ⟨rfl, rfl, rfl, by decide +kernel, rfl, by decide +kernel, by decide +kernel⟩
theorem ok_keyOf (F : Fun K "key_of" "key_of" sKeyOf f fd) (B : FX K mg aR aC aO) : FnOk P wrl K mg base CX0 1 f fd ["fence", "host"] (spKeyOf K) := by
  refine F.ok scKeyOf (fun vs H Q E h => ?_) (fun cdv A outer s H vs Q E hr h => ?_)
  · obtain ⟨fv, h, rs, hd, rfl, _⟩ := h
    rfl
  · obtain ⟨fv, h, rs, hd, rfl, ⟨a, r, hv, rfl, h1, ⟨ps, h2, h3⟩, h4⟩, nd, q⟩ := h
    refine ⟨_, pss_cons (ps_asg (pv 0) (pg_tup (by rfl) (pgs_cons (pg_name (i := 2) scKeyOf.nd rfl (Or.inl rfl)) (pgs_cons (pg_name (i := 3) scKeyOf.nd rfl (Or.inl rfl)) L2.pgs_nil))))
      (pss_one (ps_ret (pe_dget1 (hu_of hr) (pe_callTy (call_dictT rfl) (by rfl) B.dict (by decide +kernel) (pa_cons (pv 2) pa_nil)) (pv 1) ⟨rfl, rfl, rfl, rfl⟩))), ?_⟩
    refine ⟨_, rfl, a, _, rfl, h1, rfl, _, _, rfl, _, _, rfl, rfl, ?_⟩
    refine ⟨_, rfl, r, ps, kvsOf rs, rfl, h2, Paired.mapR (g := fun (x : Int × Int) => ((Sum.inl x.1 : Key), V.int x.2)) (fun _ _ q => SqT.of q) h3, fun p hp => ?_⟩
    rw [merge_nd0 nd]
    refine ⟨p, rfl, .inl ⟨_, .inl upd_same⟩, _, rfl, _, DGet.k (k := Sum.inl h) upd_same, ?_⟩
    rw [val_opt]
    exact q _ (same_new hp)
theorem scHolderWay : FnScope ["fence", "host", "_", "reservation"] ["fence", "host"] (defScope sHolderWay) := ⟨rfl, rfl, rfl, by decide +kernel, rfl, by decide +kernel, by decide +kernel⟩
theorem ok_holderWay (F : Fun K "holder_way" "holder_way" sHolderWay f fd) : FnOk P wrl K mg base CX0 1 f fd ["fence", "host"] (spWay K) := by
  refine F.ok scHolderWay (fun vs H Q E h => ?_) (fun cdv A outer s H vs Q E hr h => ?_)
  · obtain ⟨fv, h, rs, hd, rfl, _⟩ := h
    rfl
  · obtain ⟨fv, h, rs, hd, rfl, ⟨a, r, hv, rfl, h1, _, h4⟩, q⟩ := h
    refine ⟨_, pss_cons (ps_asg (pv 0) (pg_tup (by rfl) (pgs_cons (pg_name (i := 2) scHolderWay.nd rfl (Or.inl rfl)) (pgs_cons (pg_name (i := 3) scHolderWay.nd rfl (Or.inl rfl)) L2.pgs_nil))))
      (pss_cons (ps_if (PW.pt (pw_or (pt_cmpR op_isN (pv 3) pe_non (nomark _)) (pw_or1 (pt_cmpR op_ne (pe_ix ix_tup (pv 3) pe_int (fun _ _ => rfl)) (pv 1) (nomark _))))) (pss_one (ps_ret pe_non)) pss_nil)
      (pss_one (ps_ret (pe_ix ix_tup (pv 3) pe_int (fun _ _ => rfl))))), ?_⟩
    refine ⟨_, rfl, a, _, rfl, h1, rfl, _, _, rfl, _, _, rfl, rfl, ?_⟩
    refine ⟨_, rfl, rfl, _, rfl, ?_⟩
    cases hd with
    | none =>
      cases (show hv = .non from h4)
      exact iteT (iteT q)
    | some x =>
      obtain ⟨g, w⟩ := x
      obtain ⟨t, rfl, ht, _⟩ := (show ∃ q, hv = .ref q ∧ SqT K H q [.int g, .str w] ∧ PyData.strOk w = true from h4)
      refine iteF ⟨_, rfl, t, _, _, _, rfl, rfl, ht, atI_nat (j := 0) rfl, _, rfl, rfl, _, rfl, ?_⟩
      have q' : Q (if g = h then .str w else .non) H := q
      by_cases e : g = h
      · subst e
        rw [if_pos rfl] at q'
        rw [decide_eq_true rfl]
        exact iteF ⟨_, rfl, t, _, _, _, rfl, rfl, ht, atI_nat (j := 1) rfl, q'⟩
      · rw [if_neg e] at q'
        rw [decide_eq_false (show ¬ V.int g = V.int h from fun z => e (by injection z))]
        exact iteT q'
theorem scRefusesKey : FnScope ["fence", "host", "key", "word", "present", "registrations", "_"] ["fence", "host", "key", "word"] (defScope sRefusesKey) := ⟨rfl, rfl, rfl, by decide +kernel, rfl, by decide +kernel, by decide +kernel⟩
theorem ok_refusesKey (F : Fun K "_refuses_key" "_refuses_key" sRefusesKey f fd) (B : FX K mg aR aC aO) (GK : Def P wrl K mg base CX0 "key_of" 1 ["fence", "host"] (spKeyOf K) fK fdK) : FnOk P wrl K mg base CX0 2 f fd ["fence", "host", "key", "word"] (spKeyBad K) := by
  refine F.ok scRefusesKey (fun vs H Q E h => ?_) (fun cdv A outer s H vs Q E hr h => ?_)
  · obtain ⟨fv, h, key, word, rs, hd, rfl, _⟩ := h
    rfl
  · obtain ⟨fv, h, key, word, rs, hd, rfl, FA, nd, q⟩ := h
    refine ⟨_, pss_cons (ps_set (i := 4) scRefusesKey.nd rfl (Or.inl rfl) (pe_call GK.ok hr (by rfl) GK.mg GK.kp GK.bd .nil pass0 (pa_cons (pv 0) (pa_cons (pv 1) pa_nil))))
      (pss_cons (ps_if (pt_cmpR op_notN (pv 2) pe_non (nomark _)) (pss_one (ps_ret (pe_cmpR op_ne (pv 2) (pv 4) (nomark _)))) pss_nil)
      (pss_cons (ps_if (pt_cmpR op_eq (pv 3) pe_str (nomark _)) (pss_one (ps_ret pe_bl)) pss_nil)
      (pss_cons (ps_asg (pv 0) (pg_tup (by rfl) (pgs_cons (pg_name (i := 5) scRefusesKey.nd rfl (Or.inl rfl)) (pgs_cons (pg_name (i := 6) scRefusesKey.nd rfl (Or.inl rfl)) L2.pgs_nil))))
      (pss_one (ps_ret (pe_or (pe_cmpR op_notN (pv 4) pe_non (nomark _)) (pe_one (pe_and (pe_cmpR op_gt (pe_callB call_len_seq (by rfl) B.len PySem.boot_len (pa_cons (pv 5) pa_nil)) pe_int (nomark _)) (pe_one (pe_cmpR op_notIn_seq (pv 3) (pe_glob (v := .ref aR) (by rfl) B.gR rfl) (by rfl))))))))))), ?_⟩
    refine ⟨_, rfl, _, rfl, fv, h, rs, hd, rfl, FA, nd, fun H1 s1 => ?_⟩
    refine ⟨_, rfl, rfl, _, rfl, ?_⟩
    have q1 := q H1 s1
    cases key with
    | some k =>
      refine iteT ⟨_, rfl, _, rfl, opt_scal (some k) (look rs h), ?_⟩
      have e : (!decide (optI (some k) = optI (look rs h))) = keyBad rs h (some k) word := by
        rw [opt_eq]
        show _ = !decide (look rs h = some k)
        rw [Bool.not_inj_iff.mpr]
        by_cases z : some k = look rs h
        · rw [decide_eq_true z, decide_eq_true z.symm]
        · rw [decide_eq_false z, decide_eq_false (fun y => z y.symm)]
      rw [e]
      exact q1
    | none =>
      refine iteF ⟨_, rfl, rfl, _, rfl, ?_⟩
      have q2 : Q (.bl (if word = "register" then false else (look rs h).isSome || (!rs.isEmpty && !strIn word readingL))) H1 := q1
      by_cases ew : word = "register"
      · subst ew
        rw [if_pos rfl] at q2
        rw [str_eqT]
        exact iteT q2
      · rw [if_neg ew] at q2
        rw [str_eqF ew]
        refine iteF ?_
        obtain ⟨a, r, hv, rfl, h1, ⟨ps, h2, h3⟩, h4⟩ := FA.tk (TK.of s1)
        refine ⟨_, rfl, a, _, rfl, h1, rfl, _, _, rfl, _, _, rfl, rfl, ?_⟩
        refine ⟨_, rfl, rfl, _, rfl, ?_⟩
        rw [opt_non]
        cases hl : look rs h with
        | some k =>
          rw [hl] at q2
          exact iteT q2
        | none =>
          rw [hl] at q2
          refine iteF ⟨_, rfl, r, _, rfl, .inr h2.t, _, _, rfl, rfl, _, rfl, ?_⟩
          have hlen : ps.length = rs.length := h3.length
          have q3 : Q (.bl (!rs.isEmpty && !strIn word readingL)) H1 := q2
          have e1 : decide ((((ps.map V.ref).length : Nat) : Int) > 0) = !rs.isEmpty := by
            rw [List.length_map, hlen]
            cases rs with
            | nil => rfl
            | cons x l => exact decide_eq_true (by simp only [List.length_cons]; omega)
          rw [e1]
          cases hem : rs.isEmpty with
          | true =>
            rw [hem] at q3
            exact iteF q3
          | false =>
            rw [hem] at q3
            refine iteT ⟨_, rfl, aR, _, rfl, .inr (B.sR H1), rfl, flat_strs, ?_⟩
            have e : inV (.str word) (readingL.map V.str) = strIn word readingL := inV_str
            rw [e]
            exact q3
theorem scKeepsOut : FnScope ["fence", "host", "word", "_", "reservation"] ["fence", "host", "word"] (defScope sKeepsOut) := ⟨rfl, rfl, rfl, by decide +kernel, rfl, by decide +kernel, by decide +kernel⟩
theorem ok_keepsOut (F : Fun K "_keeps_out" "_keeps_out" sKeepsOut f fd) (B : FX K mg aR aC aO) : FnOk P wrl K mg base CX0 1 f fd ["fence", "host", "word"] (spKeeps K) := by
  refine F.ok scKeepsOut (fun vs H Q E h => ?_) (fun cdv A outer s H vs Q E hr h => ?_)
  · obtain ⟨fv, h, word, rs, hd, rfl, _⟩ := h
    rfl
  · obtain ⟨fv, h, word, rs, hd, rfl, ⟨a, r, hv, rfl, h1, _, h4⟩, q⟩ := h
    refine ⟨_, pss_cons (ps_asg (pv 0) (pg_tup (by rfl) (pgs_cons (pg_name (i := 3) scKeepsOut.nd rfl (Or.inl rfl)) (pgs_cons (pg_name (i := 4) scKeepsOut.nd rfl (Or.inl rfl)) L2.pgs_nil))))
      (pss_cons (ps_if (PW.pt (pw_or (pt_cmpR op_isN (pv 4) pe_non (nomark _)) (pw_or1 (pt_cmpR op_eq (pe_ix ix_tup (pv 4) pe_int (fun _ _ => rfl)) (pv 1) (nomark _))))) (pss_one (ps_ret pe_bl)) pss_nil)
      (pss_one (ps_ret (pe_or (pe_cmpR op_in_seq (pv 2) (pe_glob (v := .ref aC) (by rfl) B.gC rfl) (by rfl)) (pe_one (pe_and (pe_cmpR op_in_seq (pv 2) (pe_glob (v := .ref aR) (by rfl) B.gR rfl) (by rfl)) (pe_one (pe_cmpR op_eq (pe_ix ix_tup (pv 4) pe_int (fun _ _ => rfl)) pe_str (nomark _))))))))), ?_⟩
    refine ⟨_, rfl, a, _, rfl, h1, rfl, _, _, rfl, _, _, rfl, rfl, ?_⟩
    refine ⟨_, rfl, rfl, _, rfl, ?_⟩
    cases hd with
    | none =>
      cases (show hv = .non from h4)
      exact iteT (iteT q)
    | some x =>
      obtain ⟨g, w⟩ := x
      obtain ⟨t, rfl, ht, _⟩ := (show ∃ q, hv = .ref q ∧ SqT K H q [.int g, .str w] ∧ PyData.strOk w = true from h4)
      refine iteF ⟨_, rfl, t, _, _, _, rfl, rfl, ht, atI_nat (j := 0) rfl, _, rfl, rfl, _, rfl, ?_⟩
      have q' : Q (.bl (if g = h then false else strIn word changingL || (strIn word readingL && decide (w = "alone")))) H := q
      by_cases e : g = h
      · subst e
        rw [if_pos rfl] at q'
        rw [decide_eq_true rfl]
        exact iteT q'
      · rw [if_neg e] at q'
        rw [decide_eq_false (show ¬ V.int g = V.int h from fun z => e (by injection z))]
        refine iteF ?_
        have e1 : inV (.str word) (changingL.map V.str) = strIn word changingL := inV_str
        have e2 : inV (.str word) (readingL.map V.str) = strIn word readingL := inV_str
        refine ⟨_, rfl, aC, _, rfl, .inr (B.sC H), rfl, flat_strs, _, rfl, ?_⟩
        rw [e1]
        cases b1 : strIn word changingL with
        | true => rw [b1] at q'; exact iteT q'
        | false =>
          rw [b1] at q'
          refine iteF ⟨_, rfl, aR, _, rfl, .inr (B.sR H), rfl, flat_strs, _, rfl, ?_⟩
          rw [e2]
          cases b2 : strIn word readingL with
          | false => rw [b2] at q'; exact iteF q'
          | true =>
            rw [b2] at q'
            refine iteT ⟨_, rfl, t, _, _, _, rfl, rfl, ht, atI_nat (j := 1) rfl, rfl, ?_⟩
            have q3 : Q (.bl (decide (w = "alone"))) H := q'
            by_cases ew : w = "alone"
            · subst ew
              rw [str_eqT]
              rw [decide_eq_true rfl] at q3
              exact q3
            · rw [str_eqF ew]
              rw [decide_eq_false ew] at q3
              exact q3
end
end Sg

set_option Elab.async false
set_option linter.all false
set_option maxRecDepth 100000
set_option maxHeartbeats 4000000
namespace Sg
open PySem PySem.Spec PyProof.Rows L2
theorem hu65 {k : Nat} {A : Around} (hr : Room k A) : A.units + 65 < cLine := by have := hr.un; omega
def holdD : Option (Int × Str) → PyData
  | none => .none
  | some (h, w) => .tuple [.int h, .str w]
theorem HoldV.dp {K : PySem.W.Frag} {H : Hp} {v : V} {hd : Option (Int × Str)} (h : HoldV K H v hd) : Dp K H v (holdD hd) := by
  cases hd with
  | none => cases (show v = .non from h); exact .non
  | some x =>
    obtain ⟨q, rfl, hq, _⟩ := h
    exact .tup hq (.cons (.int _) (.cons (.str _) .nil))
def hdOk : Option (Int × Str) → Prop
  | none => True
  | some x => PyData.strOk x.2 = true
theorem HoldV.sok {K : PySem.W.Frag} {H : Hp} {v : V} {hd : Option (Int × Str)} (h : HoldV K H v hd) : hdOk hd := by
  cases hd with
  | none => trivial
  | some x => obtain ⟨q, _, _, h⟩ := h; exact h
theorem hold_shaped {hd : Option (Int × Str)} (ok : hdOk hd) : SeqAt.shaped (holdD hd) = true := by
  cases hd with
  | none => rfl
  | some x => show ((holdD (some x)).canLay0 && decide ((holdD (some x)).depth ≤ 64)) = true; simp [holdD, PyData.canLay0, PyData.canLayAll0, PyData.depth, PyData.depthAll]; exact ok
theorem eqv_pair (a c : Int) (b d : Str) : PyData.eqv (.tuple [.int a, .str b]) (.tuple [.int c, .str d]) = decide ((a, b) = (c, d)) := by
  have e : PyData.eqv (.tuple [.int a, .str b]) (.tuple [.int c, .str d]) = ((a == c) && ((b == d) && true)) := by simp only [PyData.eqv, PyData.eqvAll]
  rw [e, Bool.eq_iff_iff]
  simp
theorem hold_eqv (x y : Option (Int × Str)) : PyData.eqv (holdD x) (holdD y) = decide (x = y) := by
  cases x with
  | none => cases y with
    | none => simp [holdD, PyData.eqv]
    | some y => simp [holdD, PyData.eqv]
  | some x => cases y with
    | none => simp [holdD, PyData.eqv]
    | some y =>
      obtain ⟨a, b⟩ := x
      obtain ⟨c, d⟩ := y
      rw [show PyData.eqv (holdD (some (a, b))) (holdD (some (c, d))) = _ from eqv_pair a c b d]; simp
section
variable {P : Program} {wrl : World} {K : PySem.W.Frag} {mg : Str → Option Value} {base : Heap} {f aR aC aO fK fW fB fO fG fP : Addr} {fd fdK fdW fdB fdO fdG fdP : FuncData}
theorem scRefPre : FnScope ["fence", "host", "victim"] ["fence", "host", "victim"] (defScope sRefPre) := ⟨rfl, rfl, rfl, by decide +kernel, rfl, by decide +kernel, by decide +kernel⟩
theorem ok_refPre (F : Fun K "_refusal_of_preempt" "_refusal_of_preempt" sRefPre f fd) (GK : Def P wrl K mg base CX0 "key_of" 1 ["fence", "host"] (spKeyOf K) fK fdK) : FnOk P wrl K mg base CX0 2 f fd ["fence", "host", "victim"] (spPre K) := by
  refine F.ok scRefPre (fun vs H Q E h => ?_) (fun cdv A outer s H vs Q E hr h => ?_)
  · obtain ⟨fv, h, v, rs, hd, rfl, _⟩ := h
    rfl
  · obtain ⟨fv, h, v, rs, hd, rfl, FA, nd, q⟩ := h
    refine ⟨_, pss_cons (ps_if (pt_cmpR op_eq (pv 2) (pv 1) (nomark _)) (pss_one (ps_ret pe_str)) pss_nil)
      (pss_one (ps_ret (pe_ifExp (pt_cmpR op_isN (pe_call GK.ok hr (by rfl) GK.mg GK.kp GK.bd .nil pass0 (pa_cons (pv 0) (pa_cons (pv 2) pa_nil))) pe_non (nomark _)) pe_str pe_str))), ?_⟩
    refine ⟨_, rfl, _, rfl, rfl, _, rfl, ?_⟩
    by_cases e : v = h
    · subst e
      rw [decide_eq_true rfl]
      have := q H (Same.refl H)
      rw [show preDue rs v v = "conflict" from if_pos rfl] at this
      exact iteT this
    · rw [decide_eq_false (show ¬ V.int v = V.int h from fun z => e (by injection z))]
      refine iteF ⟨_, rfl, _, rfl, fv, v, rs, hd, rfl, FA, nd, fun H1 s1 => ⟨rfl, _, rfl, ?_⟩⟩
      have q1 := q H1 s1
      unfold preDue at q1
      rw [if_neg e] at q1
      rw [opt_non]
      cases hl : look rs v with
      | none =>
        rw [if_pos hl] at q1
        exact iteT q1
      | some k =>
        rw [if_neg (by rw [hl]; exact fun z => nomatch z)] at q1
        exact iteF q1
theorem scRefReg : FnScope ["fence", "host", "command", "_", "reservation", "way", "victim"] ["fence", "host", "command"] (defScope sRefReg) := ⟨rfl, rfl, rfl, by decide +kernel, rfl, by decide +kernel, by decide +kernel⟩
theorem ok_refReg (F : Fun K "_refusal_of_registered" "_refusal_of_registered" sRefReg f fd) (GK : Def P wrl K mg base CX0 "key_of" 1 ["fence", "host"] (spKeyOf K) fK fdK) (GW : Def P wrl K mg base CX0 "holder_way" 1 ["fence", "host"] (spWay K) fW fdW)
    (GP : Def P wrl K mg base CX0 "_refusal_of_preempt" 2 ["fence", "host", "victim"] (spPre K) fP fdP) : FnOk P wrl K mg base CX0 3 f fd ["fence", "host", "command"] (spReg K) := by
  refine F.ok scRefReg (fun vs H Q E h => ?_) (fun cdv A outer s H vs Q E hr h => ?_)
  · obtain ⟨fv, h, c, word, rest, rs, hd, rfl, _⟩ := h
    rfl
  · obtain ⟨fv, h, c, word, rest, rs, hd, rfl, FA, nd, hc, ok, q⟩ := h
    have hr1 : Room 1 _ := hr.mono (by decide)
    refine ⟨_, pss_cons (ps_asg (pv 0) (pg_tup (by rfl) (pgs_cons (pg_name (i := 3) scRefReg.nd rfl (Or.inl rfl)) (pgs_cons (pg_name (i := 4) scRefReg.nd rfl (Or.inl rfl)) L2.pgs_nil))))
      (pss_cons (ps_if (pt_cmpR op_isN (pe_call GK.ok hr1 (by rfl) GK.mg GK.kp GK.bd .nil pass0 (pa_cons (pv 0) (pa_cons (pv 1) pa_nil))) pe_non (nomark _)) (pss_one (ps_ret pe_str)) pss_nil)
      (pss_cons (ps_match (pv 2)
          (pcs_cons scRefReg.nd (mp_seq (n := 3) rfl (mps_cons mp_str (mps_cons mp_wild (mps_cons (mp_cap (i := 5) rfl (Or.inl rfl)) mps_nil))))
            (pss_one (ps_ret (pe_ifExp (pt_cmpR (op_inT (hu65 hr)) (pv 4) (pe_tup (pa_cons pe_non (pa_cons (pe_tup (pa_cons (pv 1) (pa_cons (pv 5) pa_nil))) pa_nil))) (by rfl)) pe_str pe_str)))
          (pcs_cons scRefReg.nd (mp_seq (n := 2) rfl (mps_cons mp_str (mps_cons mp_wild mps_nil)))
            (pss_one (ps_ret (pe_ifExp (pt_cmpR op_isN (pe_call GW.ok hr1 (by rfl) GW.mg GW.kp GW.bd .nil pass0 (pa_cons (pv 0) (pa_cons (pv 1) pa_nil))) pe_non (nomark _)) pe_str pe_str)))
          (pcs_cons scRefReg.nd (mp_seq (n := 3) rfl (mps_cons mp_str (mps_cons mp_wild (mps_cons (mp_cap (i := 6) rfl (Or.inl rfl)) mps_nil))))
            (pss_one (ps_ret (pe_call GP.ok hr (by rfl) GP.mg GP.kp GP.bd .nil pass0 (pa_cons (pv 0) (pa_cons (pv 1) (pa_cons (pv 6) pa_nil))))))
          pcs_nil))))
      (pss_one (ps_ret pe_str)))), ?_⟩
    have FA0 := FA
    obtain ⟨a, r, hv, rfl, h1, h2, h4⟩ := FA
    refine ⟨_, rfl, a, _, rfl, h1, rfl, _, _, rfl, _, _, rfl, rfl, ?_⟩
    refine ⟨_, rfl, _, rfl, _, h, rs, hd, rfl, FA0, nd, fun H1 s1 => ⟨rfl, _, rfl, ?_⟩⟩
    rw [opt_non]
    have FA1 := FA0.tk (TK.of s1)
    have hc1 := sqT_tk hc (TK.of s1)
    have h41 := h4.tk (TK.of s1)
    have q1 : ∀ H', Same H1 H' → Q (.str (regDue rs hd h word rest)) H' := fun H' s' => q H' (s1.trans s')
    unfold regDue at q1
    cases hl : look rs h with
    | none =>
      rw [if_pos hl] at q1
      exact iteT (q1 H1 (Same.refl H1))
    | some k =>
      rw [if_neg (by rw [hl]; exact fun z => nomatch z)] at q1
      refine iteF ⟨_, rfl, c, _, rfl, hc1, fun hlen => ?_, fun hlen => ?_⟩
      · refine ⟨_, _, rfl, word, rfl, ?_⟩
        by_cases e1 : word = "reserve"
        · rw [if_pos e1]
          rw [if_pos e1] at q1
          obtain ⟨n, w, rfl, wok⟩ := ok.res e1
          refine ⟨_, _, rfl, _, _, rfl, ?_⟩
          refine ⟨_, rfl, _, rfl, _, rfl, by show 2 ≤ sizeLine; decide, fun t1 ht1 => ⟨by show 2 ≤ sizeLine; decide, fun t2 ht2 => ?_⟩⟩
          have s2 := same_new (o := .tup [V.int h, V.str w]) ht1
          have s3 := s2.trans (same_new (o := .tup [V.non, V.ref t1]) ht2)
          have hd3 := (h41.tk (TK.of s3)).dp
          refine ⟨_, _, hd3, .tup (SqT.of upd_same) (.cons .non (.cons (.tup (SqT.of ((same_new (o := .tup [V.non, V.ref t1]) ht2) _ _ upd_same)) (.cons (.int _) (.cons (.str _) .nil))) .nil)), hold_shaped h4.sok, ?_, _, rfl, ?_⟩
          · show ((PyData.tuple [.none, .tuple [.int h, .str w]]).canLay0 && decide ((PyData.tuple [.none, .tuple [.int h, .str w]]).depth ≤ 64)) = true
            simp [PyData.canLay0, PyData.canLayAll0, PyData.depth, PyData.depthAll]; exact wok
          have ee : ([PyData.none, PyData.tuple [.int h, .str w]].any fun z => PyData.eqv z (holdD hd)) = decide (hd = none ∨ hd = some (h, w)) := by
            show (PyData.eqv (holdD none) (holdD hd) || (PyData.eqv (holdD (some (h, w))) (holdD hd) || false)) = _
            rw [hold_eqv, hold_eqv, Bool.eq_iff_iff]
            simp
            constructor
            · rintro (z | z)
              · exact .inl z.symm
              · exact .inr z.symm
            · rintro (z | z)
              · exact .inl z.symm
              · exact .inr z.symm
          rw [ee]
          have q3 := q1 _ s3
          by_cases z : hd = none ∨ hd = some (h, w)
          · rw [decide_eq_true z]
            rw [if_pos (by exact z)] at q3
            exact iteT q3
          · rw [decide_eq_false z]
            rw [if_neg (by exact z)] at q3
            exact iteF q3
        · rw [if_neg e1]
          rw [if_neg e1] at q1
          show cCons _ _ _ _ _ _ _
          refine ⟨c, _, rfl, hc1, fun hl2 => absurd (hl2.symm.trans hlen) (by decide), fun _ => ⟨c, _, rfl, hc1, fun _ => ⟨_, _, rfl, word, rfl, ?_⟩, fun z => absurd hlen z⟩⟩
          by_cases e2 : word = "release"
          · obtain ⟨n, rfl⟩ := ok.rel e2
            exact absurd (show (2 : Nat) = 3 from hlen) (by decide)
          rw [if_neg e2] at q1
          by_cases e3 : word = "preempt"
          · rw [if_pos e3]
            rw [if_pos e3] at q1
            obtain ⟨n, v, rfl⟩ := ok.pre e3
            refine ⟨_, _, rfl, _, _, rfl, ?_⟩
            exact ⟨_, rfl, _, rfl, _, rfl, _, h, v, rs, hd, rfl, FA1, nd, fun H' s' => q1 H' s'⟩
          · rw [if_neg e3]
            rw [if_neg e3] at q1
            exact q1 H1 (Same.refl H1)
      · have e1 : ¬ word = "reserve" := fun e => by
          obtain ⟨n, w, rfl, _⟩ := ok.res e
          exact hlen rfl
        have e3 : ¬ word = "preempt" := fun e => by
          obtain ⟨n, w, rfl⟩ := ok.pre e
          exact hlen rfl
        rw [if_neg e1] at q1
        show cCons _ _ _ _ _ _ _
        refine ⟨c, _, rfl, hc1, fun hl2 => ⟨_, _, rfl, word, rfl, ?_⟩, fun hl2 => ⟨c, _, rfl, hc1, fun z => absurd z hlen, fun _ => ?_⟩⟩
        · by_cases e2 : word = "release"
          · rw [if_pos e2]
            rw [if_pos e2] at q1
            obtain ⟨n, rfl⟩ := ok.rel e2
            refine ⟨_, _, rfl, ?_⟩
            refine ⟨_, rfl, _, rfl, _, h, rs, hd, rfl, FA1, rfl, _, rfl, ?_⟩
            have q3 := q1 H1 (Same.refl H1)
            by_cases z : wayV hd h = .non
            · rw [if_pos z] at q3
              rw [decide_eq_true z]
              exact iteT q3
            · rw [if_neg z] at q3
              rw [decide_eq_false z]
              exact iteF q3
          · rw [if_neg e2]
            rw [if_neg e2, if_neg e3] at q1
            show cCons _ _ _ _ _ _ _
            exact ⟨c, _, rfl, hc1, fun z => absurd z hlen, fun _ => q1 H1 (Same.refl H1)⟩
        · have e2 : ¬ word = "release" := fun e => by
            obtain ⟨n, rfl⟩ := ok.rel e
            exact hl2 rfl
          rw [if_neg e2, if_neg e3] at q1
          exact q1 H1 (Same.refl H1)
end
end Sg

set_option Elab.async false
set_option linter.all false
set_option maxRecDepth 100000
set_option maxHeartbeats 4000000
namespace Sg
open PySem PySem.Spec PyProof.Rows L2
/-- an if whose test has the answer b, whatever the way -/
theorem ifS {c : TT} {t u : TS} {D : Ends} {σ : L2.St} {H : Hp} (b : Bool) (h : ∀ Q : Bool → Hp → Prop, (∀ H', Same H H' → Q b H') → c σ H Q) (ht : b = true → ∀ H', Same H H' → t D σ H') (hf : b = false → ∀ H', Same H H' → u D σ H') : tIfS c t u D σ H := by
  refine h _ fun H' s' => ?_
  cases b with
  | true => exact iteT (ht rfl H' s')
  | false => exact iteF (hf rfl H' s')
theorem ifSq {c : TT} {t u r : TS} {D : Ends} {σ : L2.St} {H : Hp} (b : Bool) (h : ∀ Q : Bool → Hp → Prop, (∀ H', Same H H' → Q b H') → c σ H Q) (ht : b = true → ∀ H', Same H H' → t { D with nx := r D } σ H') (hf : b = false → ∀ H', Same H H' → u { D with nx := r D } σ H') : tSeq (tIfS c t u) r D σ H := ifS b h ht hf
theorem ifSn {c : TT} {t r : TS} {D : Ends} {σ : L2.St} {H : Hp} (b : Bool) (h : ∀ Q : Bool → Hp → Prop, (∀ H', Same H H' → Q b H') → c σ H Q) (ht : b = true → ∀ H', Same H H' → t { D with nx := r D } σ H') (hf : b = false → ∀ H', Same H H' → r D σ H') : tSeq (tIfS c t tNext) r D σ H := ifS b h ht hf
theorem asgSq {te : TE} {g : TG} {r : TS} {D : Ends} {σ : L2.St} {H : Hp} (v : V) (h : ∀ Q : VK, (∀ H', Same H H' → Q v H') → te σ H Q) (k : ∀ H', Same H H' → g v σ H' (r D)) : tSeq (tAsg te g) r D σ H := h _ k
theorem stSet {te : TE} {i : Nat} {r : TS} {D : Ends} {σ : L2.St} {H : Hp} (v : V) (h : ∀ Q : VK, (∀ H', Same H H' → Q v H') → te σ H Q) (k : ∀ H', Same H H' → r D (σ.set i (some v)) H') : tSeq (tAsg te (gName i)) r D σ H := h _ k
theorem stSet0 {te : TE} {i : Nat} {r : TS} {D : Ends} {σ : L2.St} {H : Hp} (v : V) (h : ∀ Q : VK, Q v H → te σ H Q) (k : r D (σ.set i (some v)) H) : tSeq (tAsg te (gName i)) r D σ H := h _ k
theorem asgS {te : TE} {g : TG} {D : Ends} {σ : L2.St} {H : Hp} (v : V) (h : ∀ Q : VK, (∀ H', Same H H' → Q v H') → te σ H Q) (k : ∀ H', Same H H' → g v σ H' D.nx) : tAsg te g D σ H := h _ k
theorem hold_way {hd : Option (Int × Str)} {h : Int} {w : Str} : decide (wayV hd h = V.str w) = decide (hd = some (h, w)) := by
  cases hd with
  | none => rfl
  | some x =>
    obtain ⟨g, y⟩ := x
    show decide ((if g = h then V.str y else V.non) = V.str w) = _
    by_cases e : g = h
    · subst e
      rw [if_pos rfl]
      by_cases z : y = w
      · subst z; rw [decide_eq_true rfl, decide_eq_true rfl]
      · rw [str_eqF z, decide_eq_false (fun q => z (by cases q; rfl))]
    · rw [if_neg e, decide_eq_false (fun q => nomatch q), decide_eq_false (fun q => e (by cases q; rfl))]
theorem way_scal {hd : Option (Int × Str)} {h : Int} {w : Str} : scal (wayV hd h) (V.str w) = true := by
  cases hd with
  | none => rfl
  | some x =>
    obtain ⟨g, y⟩ := x
    show scal (if g = h then V.str y else V.non) (V.str w) = true
    by_cases e : g = h
    · rw [if_pos e]; rfl
    · rw [if_neg e]; rfl
section
variable {P : Program} {wrl : World} {K : PySem.W.Frag} {mg : Str → Option Value} {base : Heap} {f aR aC aO fK fW fB fO fG fP : Addr} {fd fdK fdW fdB fdO fdG fdP : FuncData}
theorem scRefusal : FnScope ["fence", "host", "key", "command", "word"] ["fence", "host", "key", "command"] (defScope sRefusal) := ⟨rfl, rfl, rfl, by decide +kernel, rfl, by decide +kernel, by decide +kernel⟩
theorem ok_refusal (F : Fun K "refusal" "refusal" sRefusal f fd) (B : FX K mg aR aC aO) (GB : Def P wrl K mg base CX0 "_refuses_key" 2 ["fence", "host", "key", "word"] (spKeyBad K) fB fdB) (GO : Def P wrl K mg base CX0 "_keeps_out" 1 ["fence", "host", "word"] (spKeeps K) fO fdO)
    (GG : Def P wrl K mg base CX0 "_refusal_of_registered" 3 ["fence", "host", "command"] (spReg K) fG fdG) : FnOk P wrl K mg base CX0 4 f fd ["fence", "host", "key", "command"] (spRefusal K) := by
  refine F.ok scRefusal (fun vs H Q E h => ?_) (fun cdv A outer s H vs Q E hr h => ?_)
  · obtain ⟨fv, h, key, c, word, rest, rs, hd, rfl, _⟩ := h
    rfl
  · obtain ⟨fv, h, key, c, word, rest, rs, hd, rfl, FA, nd, hc, ok, q⟩ := h
    have hr1 : Room 1 _ := hr.mono (by decide)
    have hr2 : Room 2 _ := hr.mono (by decide)
    refine ⟨_, pss_cons (ps_set (i := 4) scRefusal.nd rfl (Or.inl rfl) (pe_ix ix_tup (pv 3) pe_int (fun _ _ => rfl)))
      (pss_cons (ps_if (PW.pt (pw_or (pt_val (pe_call GB.ok hr2 (by rfl) GB.mg GB.kp GB.bd .nil pass0 (pa_cons (pv 0) (pa_cons (pv 1) (pa_cons (pv 2) (pa_cons (pv 4) pa_nil)))))) (pw_or1 (pt_val (pe_call GO.ok hr1 (by rfl) GO.mg GO.kp GO.bd .nil pass0 (pa_cons (pv 0) (pa_cons (pv 1) (pa_cons (pv 4) pa_nil)))))))) (pss_one (ps_ret pe_str)) pss_nil)
      (pss_cons (ps_if (pt_cmpR op_in_seq (pv 4) (pe_glob (v := .ref aO) (by rfl) B.gO rfl) (by rfl)) (pss_one (ps_ret (pe_call GG.ok hr (by rfl) GG.mg GG.kp GG.bd .nil pass0 (pa_cons (pv 0) (pa_cons (pv 1) (pa_cons (pv 3) pa_nil)))))) pss_nil)
      (pss_one (ps_ret pe_str)))), ?_⟩
    refine stSet0 (v := .str word) (fun R r => ⟨_, rfl, c, _, _, _, rfl, rfl, hc, atI_nat (j := 0) rfl, r⟩) ?_
    refine ifSq (b := keyBad rs h key word || keepsOut hd h word) (fun R r => ?_) (fun hb H1 s1 => ?_) (fun hb H1 s1 => ?_)
    · refine ⟨_, rfl, _, rfl, _, rfl, _, rfl, fv, h, key, word, rs, hd, rfl, FA, nd, fun H1 s1 => ⟨_, rfl, ?_⟩⟩
      cases b1 : keyBad rs h key word with
      | true => rw [b1] at r; exact iteT (r H1 s1)
      | false => rw [b1] at r; exact iteF ⟨_, rfl, _, rfl, _, rfl, fv, h, word, rs, hd, rfl, FA.tk (TK.of s1), _, rfl, r H1 s1⟩
    · have := q H1 s1
      unfold due at this
      rw [if_pos hb] at this
      exact this
    · have q1 : ∀ H', Same H1 H' → Q (.str (due rs hd h key word rest)) H' := fun H' s' => q H' (s1.trans s')
      unfold due at q1
      rw [if_neg (by rw [hb]; exact Bool.false_ne_true)] at q1
      have e : inV (.str word) (registeredL.map V.str) = strIn word registeredL := inV_str
      refine ⟨_, rfl, aO, _, rfl, .inr (B.sO H1), rfl, flat_strs, _, rfl, ?_⟩
      rw [e]
      cases b2 : strIn word registeredL with
      | true =>
        rw [if_pos b2] at q1
        exact iteT ⟨_, rfl, _, rfl, _, rfl, fv, h, c, word, rest, rs, hd, rfl, FA.tk (TK.of s1), nd, sqT_tk hc (TK.of s1), ok, q1⟩
      | false =>
        rw [if_neg (by rw [b2]; exact Bool.false_ne_true)] at q1
        exact iteF (q1 H1 (Same.refl H1))
end
end Sg

set_option Elab.async false
set_option linter.all false
set_option maxRecDepth 100000
set_option maxHeartbeats 4000000
namespace Sg
open PySem PySem.Spec PyProof.Rows L2
/-- what is built-in of the names that the law's helpers use -/
structure LB (mg : Str → Option Value) : Prop where
  len : mg "len" = none
  abs : mg "abs" = none
  int : mg "int" = none
  list : mg "list" = none
  tuple : mg "tuple" = none
  sorted : mg "sorted" = none
  range : mg "range" = none
def Tape (K : PySem.W.Frag) (H : Hp) (p q : Addr) (ns : List Int) (i : Nat) (rest seed : Int) : Prop :=
  H p = some (.lst [.ref q, .int (i : Int), .int rest, .int seed]) ∧ SqL K H q (ns.map V.int) ∧ q ≠ p ∧ 0 ≤ rest ∧ 0 ≤ seed ∧ seed < 2147483647
def TapeAt (K : PySem.W.Frag) (H : Hp) (p q : Addr) : Prop := ∃ ns i rest seed, Tape K H p q ns i rest seed
theorem sqL_off {K : PySem.W.Frag} {H H' : Hp} {xs : List Addr} {a : Addr} {l : List V} (o : Off xs H H') (h : SqL K H a l) (n : a ∉ xs) : SqL K H' a l := by
  rcases h with (h | ⟨u, h⟩) | h
  · exact .inl (.inl (o _ _ h n))
  · exact .inl (.inr ⟨u, o _ _ h n⟩)
  · exact .inr h
theorem TapeAt.same {K : PySem.W.Frag} {H H' : Hp} {p q : Addr} (h : TapeAt K H p q) (s : Same H H') : TapeAt K H' p q := by
  obtain ⟨ns, i, rest, seed, h1, h2, h3⟩ := h
  exact ⟨ns, i, rest, seed, s _ _ h1, s.seq h2, h3⟩
/-- other things than the tape's lists were changed -/
theorem TapeAt.upd {K : PySem.W.Frag} {H : Hp} {p q d : Addr} {o u : HO} (h : TapeAt K H p q) (hd : H d = some o) (ho : ∀ xs, o ≠ .lst xs) (ho2 : ∀ ob v, o ≠ .frz ob v) : TapeAt K (upd H d u) p q := by
  obtain ⟨ns, i, rest, seed, h1, h2, h3⟩ := h
  refine ⟨ns, i, rest, seed, ?_, ?_, h3⟩
  · rw [upd_ne (ne_of h1 hd (fun z => ho _ z.symm))]; exact h1
  · rcases h2 with (h | ⟨v, h⟩) | h
    · exact .inl (.inl (by rw [upd_ne (ne_of h hd (fun z => ho _ z.symm))]; exact h))
    · exact .inl (.inr ⟨v, by rw [upd_ne (ne_of h hd (fun z => ho2 _ _ z.symm))]; exact h⟩)
    · exact .inr h
theorem TapeAt.off {K : PySem.W.Frag} {H H' : Hp} {p q : Addr} {xs : List Addr} (h : TapeAt K H p q) (o : Off xs H H') (hp : p ∉ xs) (hq : q ∉ xs) : TapeAt K H' p q := by
  obtain ⟨ns, i, rest, seed, h1, h2, h3⟩ := h
  exact ⟨ns, i, rest, seed, o _ _ h1 hp, sqL_off o h2 hq, h3⟩
theorem TapeAt.lst {K : PySem.W.Frag} {H : Hp} {p q : Addr} (h : TapeAt K H p q) : ∃ l, H p = some (.lst l) := by
  obtain ⟨ns, i, rest, seed, h1, _⟩ := h
  exact ⟨_, h1⟩
theorem TapeAt.tk {K : PySem.W.Frag} {H H' : Hp} {p q : Addr} (h : TapeAt K H p q) (o : Off [p] H H') : TK H H' := TK.off o fun x hx => by
  cases List.mem_singleton.mp hx
  exact .inl h.lst
def spNext (K : PySem.W.Frag) : Sp := fun vs H Q _ => ∃ (p q : Addr) (many : Int), vs = [.ref p, .int many] ∧ TapeAt K H p q ∧ 0 < many ∧ many < 1073741824 ∧
  ∀ r H', 0 ≤ r → r < many → Off [p] H H' → TapeAt K H' p q → Q (.int r) H'
section
variable {P : Program} {wrl : World} {K : PySem.W.Frag} {mg : Str → Option Value} {base : Heap} {f : Addr} {fd : FuncData}
theorem scNext : FnScope ["tape", "many", "rest", "cell"] ["tape", "many"] (defScope sNext) := ⟨rfl, rfl, rfl, by decide +kernel, rfl, by decide +kernel, by decide +kernel⟩
theorem ok_next (F : Fun K "_law_next" "_law_next" sNext f fd) (B : LB mg) : FnOk P wrl K mg base CX0 1 f fd ["tape", "many"] (spNext K) := by
  refine F.ok scNext (fun vs H Q E h => ?_) (fun cdv A outer s H vs Q E hr h => ?_)
  · obtain ⟨p, q, many, rfl, _⟩ := h
    rfl
  · obtain ⟨p, q, many, rfl, ⟨ns, i, rest, seed, h1, h2, hne, hre, hs0, hs1⟩, hm0, hm1, k⟩ := h
    refine ⟨_, pss_cons (ps_set (i := 2) scNext.nd rfl (Or.inl rfl) (pe_ix ix_list (pv 0) pe_int (fun _ _ => rfl)))
      (Evl.pss_cut (ps_if (pt_cmpR op_eq (pv 2) pe_int (nomark _))
          (pss_cons (ps_set (i := 3) scNext.nd rfl (Or.inl rfl) pe_int)
          (Evl.pss_cut (ps_if (pt_cmpR op_lt (pe_ix ix_list (pv 0) pe_int (fun _ _ => rfl)) (pe_callB call_len_seq (by rfl) B.len PySem.boot_len (pa_cons (pe_ix ix_list (pv 0) pe_int (fun _ _ => rfl)) pa_nil)) (nomark _))
              (pss_cons (ps_set (i := 3) scNext.nd rfl (Or.inl rfl) (pe_callB call_abs (by rfl) B.abs (by decide +kernel) (pa_cons (pe_callTy call_int1 (by rfl) B.int (by decide +kernel) (pa_cons (pe_ix ix_list (pe_ix ix_list (pv 0) pe_int (fun _ _ => rfl)) (pe_ix ix_list (pv 0) pe_int (fun _ _ => rfl)) (fun _ _ => rfl)) pa_nil)) pa_nil)))
              (pss_one (ps_asg (pe_op op_add (pe_ix ix_list (pv 0) pe_int (fun _ _ => rfl)) pe_int) (pg_sub (pv 0) pe_int set_list)))) pss_nil)
          (pss_cons (ps_set (i := 2) scNext.nd rfl (Or.inl rfl) (pv 3))
          (pss_one (ps_if (pt_cmpR op_lt (pv 3) (pe_op op_pow pe_int pe_int) (nomark _))
              (pss_cons (ps_asg (pe_op op_mod (pe_callTy call_int1 (by rfl) B.int (by decide +kernel) (pa_cons (pe_op op_add (pe_op op_add (pe_op op_mul (pe_ix ix_list (pv 0) pe_int (fun _ _ => rfl)) pe_int) (pe_op op_mul (pv 3) pe_int)) pe_int) pa_nil)) pe_int) (pg_sub (pv 0) pe_int set_list))
              (pss_one (ps_ret (pe_op op_mod (pe_op op_mod (pe_callTy call_int1 (by rfl) B.int (by decide +kernel) (pa_cons (pe_op op_mul (pe_op op_fdiv (pe_ix ix_list (pv 0) pe_int (fun _ _ => rfl)) pe_int) pe_int) pa_nil)) pe_int) (pv 1))))) pss_nil))))) pss_nil)
      (pss_cons (ps_asg (pe_op op_fdiv (pv 2) (pv 1)) (pg_sub (pv 0) pe_int set_list))
      (pss_one (ps_ret (pe_op op_mod (pe_callTy call_int1 (by rfl) B.int (by decide +kernel) (pa_cons (pv 2) pa_nil)) (pv 1)))))), ?_⟩
    refine ⟨_, rfl, p, _, _, _, rfl, rfl, SqL.of h1, atI_nat (j := 2) rfl, ?_⟩
    refine ⟨fun σ H' => ∃ (v3 : Option V) (i' : Nat) (r : Int), σ = [some (.ref p), some (.int many), some (.int r), v3] ∧ H' = upd H p (.lst [.ref q, .int (i' : Int), .int rest, .int seed]) ∧ 0 ≤ r, ?_, ?_⟩
    · refine ⟨_, rfl, rfl, _, rfl, ?_⟩
      refine ite2 (fun hc => ?_) (fun hc => ?_)
      · refine ⟨fun σ H' => ∃ (i' : Nat) (c : Int), σ = [some (.ref p), some (.int many), some (.int rest), some (.int c)] ∧ H' = upd H p (.lst [.ref q, .int (i' : Int), .int rest, .int seed]) ∧ 0 ≤ c, ?_, ?_⟩
        · refine ⟨_, rfl, p, _, _, _, rfl, rfl, SqL.of h1, atI_nat (j := 1) rfl, _, rfl, p, _, _, _, rfl, rfl, SqL.of h1, atI_nat (j := 0) rfl, q, _, rfl, .inl h2, _, _, rfl, rfl, _, rfl, ?_⟩
          refine ite2 (fun hl => ?_) (fun hl => ?_)
          · have hi : i < ns.length := by
              have := of_decide_eq_true hl
              rw [List.length_map] at this
              omega
            refine ⟨_, rfl, p, _, _, _, rfl, rfl, SqL.of h1, atI_nat (j := 0) rfl, _, rfl, p, _, _, _, rfl, rfl, SqL.of h1, atI_nat (j := 1) rfl, q, _, _, V.int ns[i], rfl, rfl, h2, atI_nat (get_map (List.getElem?_eq_getElem hi)), .inl ⟨_, rfl, _, rfl, ?_⟩⟩
            refine ⟨_, rfl, p, _, _, _, rfl, rfl, SqL.of h1, atI_nat (j := 1) rfl, _, _, rfl, rfl, _, rfl, p, _, _, 1, rfl, rfl, h1, rfl, ?_⟩
            exact ⟨i + 1, _, rfl, rfl, by split <;> omega⟩
          · refine ⟨i, 0, ?_, ?_, by decide⟩
            · rfl
            · funext b
              by_cases e : b = p
              · rw [e, upd_same, h1]
              · rw [upd_ne e]
        · rintro σ H' ⟨i', c, rfl, rfl, hc0⟩
          refine ⟨_, rfl, ?_⟩
          refine ⟨_, rfl, _, _, rfl, rfl, ⟨by decide, by decide, by decide⟩, _, _, rfl, rfl, _, rfl, ?_⟩
          refine ite2 (fun hl => ?_) (fun hl => ?_)
          · have hc1 : c < 10 ^ 18 := by
              have := of_decide_eq_true hl
              have e : (10 : Int) ^ (18 : Int).toNat = 10 ^ 18 := rfl
              omega
            refine ⟨_, rfl, p, _, _, _, rfl, rfl, SqL.of upd_same, atI_nat (j := 3) rfl, _, _, rfl, rfl, .inl ⟨by omega, by omega⟩, _, rfl, _, _, rfl, rfl, .inr ⟨by decide, by decide⟩, _, _, rfl, rfl, _, _, rfl, rfl, .inl ⟨_, rfl, ?_⟩⟩
            refine ⟨_, _, rfl, rfl, (by show (0 : Int) < 2147483647; decide), _, rfl, p, _, _, 3, rfl, rfl, upd_same, rfl, ?_⟩
            rw [upd_upd]
            refine ⟨_, rfl, p, _, _, _, rfl, rfl, SqL.of upd_same, atI_nat (j := 3) rfl, _, _, rfl, rfl, ⟨by decide, by decide⟩, _, _, rfl, rfl, .inr ⟨by decide, by decide⟩, .inl ⟨_, rfl, ?_⟩⟩
            refine ⟨_, _, rfl, rfl, (by show (0 : Int) < 2147483647; decide), _, rfl, _, _, rfl, rfl, hm0, ?_⟩
            refine k _ _ (Int.emod_nonneg _ (by omega)) (Int.emod_lt_of_pos _ hm0) (Off.upd (List.mem_singleton.mpr rfl)) ⟨ns, i', rest, _, upd_same, sqL_off (Off.upd (List.mem_singleton.mpr rfl)) h2 (by simp [hne]), hne, hre, Int.emod_nonneg _ (by decide), Int.emod_lt_of_pos _ (by decide)⟩
          · exact ⟨_, i', c, rfl, rfl, hc0⟩
      · refine ⟨none, i, rest, ?_, ?_, hre⟩
        · rfl
        · funext b
          by_cases e : b = p
          · rw [e, upd_same, h1]
          · rw [upd_ne e]
    · rintro σ H' ⟨v3, i', r, rfl, rfl, hr0⟩
      refine ⟨_, rfl, _, rfl, _, _, rfl, rfl, ⟨hm0, hm1⟩, _, rfl, p, _, _, 2, rfl, rfl, upd_same, rfl, ?_⟩
      rw [upd_upd]
      refine ⟨_, rfl, .inl ⟨_, rfl, _, rfl, _, _, rfl, rfl, hm0, ?_⟩⟩
      refine k _ _ (Int.emod_nonneg _ (by omega)) (Int.emod_lt_of_pos _ hm0) (Off.upd (List.mem_singleton.mpr rfl)) ⟨ns, i', _, seed, upd_same, sqL_off (Off.upd (List.mem_singleton.mpr rfl)) h2 (by simp [hne]), hne, Int.ediv_nonneg hr0 (by omega), hs0, hs1⟩
end
end Sg

set_option Elab.async false
set_option linter.all false
set_option maxRecDepth 100000
set_option maxHeartbeats 4000000
namespace Sg
open PySem PySem.Spec PyProof.Rows L2
def spCommand (K : PySem.W.Frag) : Sp := fun vs H Q _ => ∃ (p q : Addr), vs = [.ref p] ∧ TapeAt K H p q ∧
  ∀ c word rest H', Off [p] H H' → TapeAt K H' p q → SqT K H' c (.str word :: rest) → CmdOk word rest → Q (.ref c) H'
theorem CmdOk.of {word : Str} {rest : List V} (a : ¬ word = "reserve") (b : ¬ word = "preempt") (c : ¬ word = "release") (n : strIn word namesL = true) : CmdOk word rest := ⟨fun e => absurd e a, fun e => absurd e b, fun e => absurd e c, n⟩
section
variable {P : Program} {wrl : World} {K : PySem.W.Frag} {mg : Str → Option Value} {base : Heap} {f fN : Addr} {fd fdN : FuncData}
theorem scCommand : FnScope ["tape", "names", "name"] ["tape"] (defScope sCommand) := ⟨rfl, rfl, rfl, by decide +kernel, rfl, by decide +kernel, by decide +kernel⟩
theorem ok_command (F : Fun K "_law_command" "_law_command" sCommand f fd) (GN : Def P wrl K mg base CX0 "_law_next" 1 ["tape", "many"] (spNext K) fN fdN) : FnOk P wrl K mg base CX0 2 f fd ["tape"] (spCommand K) := by
  refine F.ok scCommand (fun vs H Q E h => ?_) (fun cdv A outer s H vs Q E hr h => ?_)
  · obtain ⟨p, q, rfl, _⟩ := h
    rfl
  · obtain ⟨p, q, rfl, tp, k⟩ := h
    refine ⟨_, pss_cons (ps_set (i := 1) scCommand.nd rfl (Or.inl rfl) (pe_lst (pa_cons pe_str (pa_cons pe_str (pa_cons pe_str (pa_cons pe_str (pa_cons pe_str (pa_cons pe_str (pa_cons pe_str (pa_cons pe_str (pa_cons pe_str (pa_cons pe_str (pa_cons pe_str (pa_cons pe_str pa_nil))))))))))))))
      (pss_cons (ps_set (i := 2) scCommand.nd rfl (Or.inl rfl) (pe_ix ix_list (pv 1) (pe_call GN.ok hr (by rfl) GN.mg GN.kp GN.bd .nil pass0 (pa_cons (pv 0) (pa_cons pe_int pa_nil))) (fun _ _ => rfl)))
      (pss_cons (ps_if (pt_cmpR op_eq (pv 2) pe_str (nomark _)) (pss_one (ps_ret (pe_tup (pa_cons (pv 2) (pa_cons pe_int (pa_cons (pe_call GN.ok hr (by rfl) GN.mg GN.kp GN.bd .nil pass0 (pa_cons (pv 0) (pa_cons pe_int pa_nil))) (pa_cons (pe_op op_sub (pe_call GN.ok hr (by rfl) GN.mg GN.kp GN.bd .nil pass0 (pa_cons (pv 0) (pa_cons pe_int pa_nil))) pe_int) pa_nil))))))) pss_nil)
      (pss_cons (ps_if (PW.pt (pw_or (pt_cmpR op_eq (pv 2) pe_str (nomark _)) (pw_or1 (pt_cmpR op_eq (pv 2) pe_str (nomark _))))) (pss_one (ps_ret (pe_tup (pa_cons (pv 2) (pa_cons pe_int (pa_cons (pe_call GN.ok hr (by rfl) GN.mg GN.kp GN.bd .nil pass0 (pa_cons (pv 0) (pa_cons pe_int pa_nil))) pa_nil)))))) pss_nil)
      (pss_cons (ps_if (pt_cmpR op_eq (pv 2) pe_str (nomark _)) (pss_one (ps_ret (pe_tup (pa_cons (pv 2) (pa_cons pe_int (pa_cons (pe_op op_add pe_int (pe_call GN.ok hr (by rfl) GN.mg GN.kp GN.bd .nil pass0 (pa_cons (pv 0) (pa_cons pe_int pa_nil)))) (pa_cons (pe_call GN.ok hr (by rfl) GN.mg GN.kp GN.bd .nil pass0 (pa_cons (pv 0) (pa_cons pe_int pa_nil))) pa_nil))))))) pss_nil)
      (pss_cons (ps_if (pt_cmpR op_eq (pv 2) pe_str (nomark _)) (pss_one (ps_ret (pe_tup (pa_cons (pv 2) (pa_cons pe_int (pa_cons (pe_op op_add pe_int (pe_call GN.ok hr (by rfl) GN.mg GN.kp GN.bd .nil pass0 (pa_cons (pv 0) (pa_cons pe_int pa_nil)))) pa_nil)))))) pss_nil)
      (pss_cons (ps_if (pt_cmpR op_eq (pv 2) pe_str (nomark _)) (pss_one (ps_ret (pe_tup (pa_cons (pv 2) (pa_cons pe_int (pa_cons (pe_ix ix_list (pe_lst (pa_cons pe_str (pa_cons pe_str pa_nil))) (pe_call GN.ok hr (by rfl) GN.mg GN.kp GN.bd .nil pass0 (pa_cons (pv 0) (pa_cons pe_int pa_nil))) (fun _ _ => rfl)) pa_nil)))))) pss_nil)
      (pss_cons (ps_if (pt_cmpR op_eq (pv 2) pe_str (nomark _)) (pss_one (ps_ret (pe_tup (pa_cons (pv 2) (pa_cons pe_int (pa_cons (pe_call GN.ok hr (by rfl) GN.mg GN.kp GN.bd .nil pass0 (pa_cons (pv 0) (pa_cons pe_int pa_nil))) pa_nil)))))) pss_nil)
      (pss_one (ps_ret (pe_tup (pa_cons (pv 2) (pa_cons pe_int pa_nil)))))))))))), ?_⟩
    refine ⟨by show 12 ≤ sizeLine; decide, fun l hl => ?_⟩
    have s1 := same_new (o := .lst (namesL.map V.str)) hl
    have lp : l ≠ p := fun e => by
      obtain ⟨x, hx⟩ := tp.lst
      rw [e, hx] at hl; cases hl
    refine ⟨_, rfl, _, rfl, p, q, 12, rfl, tp.same s1, by decide, by decide, fun r H1 r0 r1 o1 t1 => ?_⟩
    have hl1 : H1 l = some (.lst (namesL.map V.str)) := o1 _ _ upd_same (by simpa using lp)
    have hr1 : r.toNat < namesL.length := by show r.toNat < 12; omega
    refine ⟨l, _, _, V.str (namesL[r.toNat]), rfl, rfl, SqL.of hl1, ?_, ?_⟩
    · have := atI_nat (get_map (f := V.str) (List.getElem?_eq_getElem hr1))
      rw [show ((r.toNat : Nat) : Int) = r by omega] at this
      exact this
    have o01 : Off [p] H H1 := fun b o e n => o1 _ _ (s1 _ _ e) n
    have hnm : strIn namesL[r.toNat] namesL = true := List.any_eq_true.mpr ⟨_, List.getElem_mem hr1, decide_eq_true rfl⟩
    generalize namesL[r.toNat] = word at hnm ⊢
    have one : ∀ (H2 : Hp) (xs : List V), TapeAt K H2 p q → Off [p] H H2 → CmdOk word xs → ∀ t, H2 t = none → Q (.ref t) (upd H2 t (.tup (.str word :: xs))) := fun H2 xs t2 o2 c2 t ht =>
      k t word xs _ (fun b o e n => same_new ht _ _ (o2 _ _ e n)) (t2.same (same_new ht)) (SqT.of upd_same) c2
    refine ⟨_, rfl, rfl, _, rfl, ?_⟩
    by_cases e1 : word = "write"
    · subst e1
      rw [str_eqT]
      refine iteT ⟨_, rfl, _, rfl, p, q, 5, rfl, t1, by decide, by decide, fun n1 H2 _ _ o2 t2 => ⟨_, rfl, p, q, 9, rfl, t2, by decide, by decide, fun n2 H3 _ _ o3 t3 => ⟨_, _, rfl, rfl, by show 4 ≤ sizeLine; decide, fun t ht => ?_⟩⟩⟩
      exact one H3 _ t3 ((o01.trans o2).trans o3) (CmdOk.of (by decide) (by decide) (by decide) hnm) t ht
    rw [str_eqF e1]
    refine iteF ⟨_, rfl, rfl, _, rfl, ?_⟩
    have two : ¬ word = "reserve" → ¬ word = "preempt" → ¬ word = "release" → tRet (tTup (tCons (tVar 2) (tCons (tC (.int 3)) (tCons (tCall (spNext K) [] E0 (tCons (tVar 0) (tCons (tC (.int 5)) tNil))) tNil)))) { nx := fun _ H' => Q .non H', rt := Q } [some (.ref p), some (.ref l), some (.str word)] H1 := fun a b c =>
      ⟨_, rfl, _, rfl, p, q, 5, rfl, t1, by decide, by decide, fun n1 H2 _ _ o2 t2 => ⟨by show 3 ≤ sizeLine; decide, fun t ht => one H2 _ t2 (o01.trans o2) (CmdOk.of a b c hnm) t ht⟩⟩
    by_cases e2 : word = "trim"
    · subst e2
      rw [str_eqT]
      exact iteT (iteT (two (by decide) (by decide) (by decide)))
    rw [str_eqF e2]
    refine iteF ⟨_, rfl, rfl, _, rfl, ?_⟩
    by_cases e3 : word = "read"
    · subst e3
      rw [str_eqT]
      exact iteT (two (by decide) (by decide) (by decide))
    rw [str_eqF e3]
    refine iteF ⟨_, rfl, rfl, _, rfl, ?_⟩
    by_cases e4 : word = "view"
    · subst e4
      rw [str_eqT]
      refine iteT ⟨_, rfl, _, rfl, p, q, 9, rfl, t1, by decide, by decide, fun n1 H2 _ _ o2 t2 => ⟨_, _, rfl, rfl, _, rfl, p, q, 5, rfl, t2, by decide, by decide, fun n2 H3 _ _ o3 t3 => ⟨by show 4 ≤ sizeLine; decide, fun t ht => ?_⟩⟩⟩
      exact one H3 _ t3 ((o01.trans o2).trans o3) (CmdOk.of (by decide) (by decide) (by decide) hnm) t ht
    rw [str_eqF e4]
    refine iteF ⟨_, rfl, rfl, _, rfl, ?_⟩
    by_cases e5 : word = "drop"
    · subst e5
      rw [str_eqT]
      refine iteT ⟨_, rfl, _, rfl, p, q, 9, rfl, t1, by decide, by decide, fun n1 H2 _ _ o2 t2 => ⟨_, _, rfl, rfl, by show 3 ≤ sizeLine; decide, fun t ht => ?_⟩⟩
      exact one H2 _ t2 (o01.trans o2) (CmdOk.of (by decide) (by decide) (by decide) hnm) t ht
    rw [str_eqF e5]
    refine iteF ⟨_, rfl, rfl, _, rfl, ?_⟩
    by_cases e6 : word = "reserve"
    · subst e6
      rw [str_eqT]
      refine iteT ⟨_, rfl, by show 2 ≤ sizeLine; decide, fun l2 hl2 => ?_⟩
      have s2 := same_new (o := .lst [V.str "write", V.str "alone"]) hl2
      have lp2 : l2 ≠ p := fun e => by
        obtain ⟨x, hx⟩ := t1.lst
        rw [e, hx] at hl2; cases hl2
      refine ⟨_, rfl, p, q, 2, rfl, t1.same s2, by decide, by decide, fun n1 H2 n0 n1l o2 t2 => ?_⟩
      have hl3 : H2 l2 = some (.lst [V.str "write", V.str "alone"]) := o2 _ _ upd_same (by simpa using lp2)
      have o02 : Off [p] H H2 := fun b o e n => o2 _ _ (s2 _ _ (o01 _ _ e n)) n
      by_cases z : n1 = 0
      · subst z
        exact ⟨l2, _, _, _, rfl, rfl, SqL.of hl3, atI_nat (j := 0) rfl, by show 3 ≤ sizeLine; decide, fun t ht => one H2 _ t2 o02 ⟨fun _ => ⟨3, "write", rfl, by decide +kernel⟩, fun e => absurd e (by decide), fun e => absurd e (by decide), hnm⟩ t ht⟩
      · have z1 : n1 = 1 := by omega
        subst z1
        exact ⟨l2, _, _, _, rfl, rfl, SqL.of hl3, atI_nat (j := 1) rfl, by show 3 ≤ sizeLine; decide, fun t ht => one H2 _ t2 o02 ⟨fun _ => ⟨3, "alone", rfl, by decide +kernel⟩, fun e => absurd e (by decide), fun e => absurd e (by decide), hnm⟩ t ht⟩
    rw [str_eqF e6]
    refine iteF ⟨_, rfl, rfl, _, rfl, ?_⟩
    by_cases e7 : word = "preempt"
    · subst e7
      rw [str_eqT]
      refine iteT ⟨_, rfl, _, rfl, p, q, 4, rfl, t1, by decide, by decide, fun n1 H2 _ _ o2 t2 => ⟨by show 3 ≤ sizeLine; decide, fun t ht => ?_⟩⟩
      exact one H2 _ t2 (o01.trans o2) ⟨fun e => absurd e (by decide), fun _ => ⟨3, n1, rfl⟩, fun e => absurd e (by decide), hnm⟩ t ht
    rw [str_eqF e7]
    refine iteF ⟨_, rfl, by show 2 ≤ sizeLine; decide, fun t ht => ?_⟩
    exact one H1 _ t1 o01 ⟨fun e => absurd e e6, fun e => absurd e e7, fun _ => ⟨3, rfl⟩, hnm⟩ t ht
end
end Sg

set_option Elab.async false
set_option linter.all false
set_option maxRecDepth 100000
set_option maxHeartbeats 4000000
namespace Sg
open PySem PySem.Spec PyProof.Rows L2
theorem yesIte {σ : L2.St} {H : Hp} {A B : Hp → Prop} (h : A H) : tYes σ H (fun b H3 => if b = true then A H3 else B H3) := by
  show (if true = true then A H else B H)
  rw [if_pos rfl]; exact h
theorem paired_snoc {α β : Type} {F : α → β → Prop} : ∀ {a : List α} {b : List β} {x : α} {y : β}, Paired F a b → F x y → Paired F (a ++ [x]) (b ++ [y])
  | _, _, _, _, .nil, h => .cons h .nil
  | _, _, _, _, .cons r t, h => .cons r (paired_snoc t h)
theorem paired_ofmap {α β γ : Type} {F : α → γ → Prop} {g : β → γ} : ∀ {m : List β} {l : List α}, Paired F l (m.map g) → Paired (fun a b => F a (g b)) l m
  | [], _, h => by cases h; exact .nil
  | b :: m, _, h => by
    cases h with
    | cons r t => exact .cons r (paired_ofmap t)
/-- [(.., ..) for x in xs]: new tuples, cs what they hold -/
theorem lc_tups {K : PySem.W.Frag} {σ : L2.St} {H1 : Hp} {D a : Addr} {vs : List Nat} {j : Nat} {xs : List V} {te : TE} {Qd : Hp → Prop} (cs : List (List V)) (hlen : cs.length = xs.length) (hD : H1 D = Option.none) (hx : SqL K H1 a xs) (hw : ∀ x, wipe ((wipe σ vs).set j (some x)) vs = wipe σ vs) (hz : xs.length ≤ sizeLine)
    (he : ∀ (i : Nat) (x : V) (c : List V) (H' : Hp) (Q' : VK), xs[i]? = some x → cs[i]? = some c → Same H1 H' → (∀ q H'', Same H' H'' → H'' q = some (.tup c) → Q' (.ref q) H'') → te ((wipe σ vs).set j (some x)) H' Q')
    (hd : ∀ H' (qs : List Addr), Same H1 H' → H' D = some (.lst (qs.map V.ref)) → Paired (fun (q : Addr) (c : List V) => H' q = some (.tup c)) qs cs → Qd H') :
    ∃ W : Nat → Nat → Hp → Prop, (∃ m, W 0 m (upd H1 D (.lst []))) ∧ ∀ i m H, W i m H →
      ((Itl K a).stop i H ∧ Qd H) ∨ ((Itl K a).go i H ∧ ∃ Nx : Hp → Prop, (∀ H', Nx H' → ∃ m', m' < m ∧ W (i + 1) m' H') ∧ ∀ x H', (Itl K a).yld i H x H' → gName j x (wipe σ vs) H' fun σ2 H2 => wipe σ2 vs = wipe σ vs ∧ tYes σ2 H2 fun b H3 =>
        if b = true then te σ2 H3 fun y H4 => ∃ acc, H4 D = some (.lst acc) ∧ acc.length < sizeLine ∧ Nx (upd H4 D (.lst (acc ++ [y]))) else Nx H3) := by
  refine lc_list (K := K) (a := a) (xs := xs) (fun i H' => i ≤ xs.length ∧ Same H1 H' ∧ ∃ qs : List Addr, H' D = some (.lst (qs.map V.ref)) ∧ qs.length = i ∧ Paired (fun (q : Addr) (c : List V) => H' q = some (.tup c)) qs (cs.take i)) ⟨Nat.zero_le _, same_new hD, [], upd_same, rfl, by rw [List.take_zero]; exact .nil⟩ (fun i H' _ ⟨_, sm, _⟩ => sm.seq hx) ?_ ?_
  · rintro i x H' hi ⟨_, sm, qs, hDl, hl, pr⟩
    have hil := (List.getElem?_eq_some_iff.mp hi).1
    have hc : cs[i]? = some (cs[i]'(by omega)) := List.getElem?_eq_getElem _
    refine ⟨hw _, yesIte (he i x _ H' _ hi hc sm fun q H'' s2 hq => ⟨_, s2 _ _ hDl, ?_, by omega, ?_, qs ++ [q], ?_, ?_, ?_⟩)⟩
    · rw [List.length_map, hl]; omega
    · intro y o hy'
      rw [upd_ne (ne_of_none hy' hD)]
      exact s2 _ _ (sm _ _ hy')
    · rw [upd_same, List.map_append]; rfl
    · rw [List.length_append, hl]; rfl
    · have keep : ∀ (u : Addr) (c : List V), H'' u = some (.tup c) → upd H'' D (.lst (qs.map V.ref ++ [.ref q])) u = some (.tup c) := fun u c e => by
        rw [upd_ne (ne_of e (s2 _ _ hDl) (by intro z; cases z))]; exact e
      rw [List.take_add_one, hc]
      exact paired_snoc (Paired.imp2 (fun u c e => keep u c (s2 _ _ e)) pr) (keep q _ hq)
  · rintro H' ⟨_, sm, qs, hDl, hl, pr⟩
    exact hd H' qs sm hDl (by rw [← hlen, List.take_length] at pr; exact pr)
/-! ### keys in order -/
structure SortOf (ks rs : List (Int × Int)) : Prop where
  perm : (rs.map (·.1)).Perm (ks.map (·.1))
  ord : (rs.map (·.1)).Pairwise (· ≤ ·)
  val : ∀ x ∈ rs, look ks x.1 = some x.2
theorem look_none {ks : List (Int × Int)} {h : Int} : look ks h = none ↔ h ∉ ks.map (·.1) := by
  induction ks with
  | nil => simp [look_nil]
  | cons x ks ih =>
    obtain ⟨k, v⟩ := x
    by_cases e : k = h
    · subst e; simp [look_pos]
    · rw [look_neg e, ih]; simp; omega
theorem look_mem {ks : List (Int × Int)} (nd : KNd ks) {x : Int × Int} (hx : x ∈ ks) : look ks x.1 = some x.2 := by
  induction ks with
  | nil => cases hx
  | cons y ks ih =>
    obtain ⟨k, v⟩ := y
    have nd' : k ∉ ks.map (·.1) ∧ KNd ks := List.nodup_cons.mp nd
    rcases List.mem_cons.mp hx with rfl | h
    · exact look_pos
    · rw [look_neg (fun e => nd'.1 (by rw [e]; exact List.mem_map.mpr ⟨x, h, rfl⟩)), ih nd'.2 h]
theorem mem_look {ks : List (Int × Int)} {h v : Int} (e : look ks h = some v) : (h, v) ∈ ks := by
  induction ks with
  | nil => cases e
  | cons y ks ih =>
    obtain ⟨k, w⟩ := y
    by_cases z : k = h
    · subst z; rw [look_pos] at e; cases e; exact List.mem_cons_self
    · rw [look_neg z] at e; exact List.mem_cons_of_mem _ (ih e)
section
variable {ks rs ls : List (Int × Int)}
theorem SortOf.nd (s : SortOf ks rs) (nd : KNd ks) : KNd rs := s.perm.nodup_iff.mpr nd
theorem SortOf.look (s : SortOf ks rs) (nd : KNd ks) (h : Int) : Sg.look rs h = Sg.look ks h := by
  cases e : Sg.look rs h with
  | none =>
    rw [look_none] at e
    exact (look_none.mpr fun m => e (s.perm.mem_iff.mpr m)).symm
  | some v => exact (s.val _ (mem_look e)).symm
theorem SortOf.emp (s : SortOf ks rs) : rs.isEmpty = ks.isEmpty := by
  have := s.perm.length_eq
  rw [List.length_map, List.length_map] at this
  cases rs <;> cases ks <;> simp_all
theorem SortOf.one (s : SortOf ks rs) (t : SortOf ks ls) : rs = ls := by
  have e : rs.map (·.1) = ls.map (·.1) := PySem.W.ksm_same (s.perm.trans t.perm.symm) s.ord t.ord
  have hl : rs.length = ls.length := by have := congrArg List.length e; simpa using this
  refine List.ext_getElem hl fun i h1 h2 => ?_
  have e1 : (rs[i]).1 = (ls[i]).1 := by
    have := congrArg (fun l => l[i]?) e
    simp only [List.getElem?_map, List.getElem?_eq_getElem h1, List.getElem?_eq_getElem h2] at this
    exact Option.some.inj this
  have e2 := s.val _ (List.getElem_mem h1)
  have e3 := t.val _ (List.getElem_mem h2)
  rw [e1, e3] at e2
  exact Prod.ext e1 (Option.some.inj e2).symm
end
def spLFence (K : PySem.W.Frag) : Sp := fun vs H Q _ => ∃ (d : Addr) (hv : V) (ks : List (Int × Int)) (hd : Option (Int × Str)), vs = [.ref d, hv] ∧ H d = some (.dK (kvsOf ks)) ∧ KNd ks ∧ ks.length ≤ 1000 ∧ HoldV K H hv hd ∧
  ∀ a rs H', Same H H' → SortOf ks rs → FenceAt K H' (.ref a) rs hd → Q (.ref a) H'
section
variable {P : Program} {wrl : World} {K : PySem.W.Frag} {mg : Str → Option Value} {base : Heap} {f fN : Addr} {fd fdN : FuncData}
theorem scLFence : FnScope ["keys", "holder", "host"] ["keys", "holder"] (defScope sLFence) := ⟨rfl, rfl, rfl, by decide +kernel, rfl, by decide +kernel, by decide +kernel⟩
theorem ok_lfence (F : Fun K "_law_fence" "_law_fence" sLFence f fd) (B : LB mg) : FnOk P wrl K mg base CX0 1 f fd ["keys", "holder"] (spLFence K) := by
  refine F.ok scLFence (fun vs H Q E h => ?_) (fun cdv A outer s H vs Q E hr h => ?_)
  · obtain ⟨d, hv, ks, hd, rfl, _⟩ := h
    rfl
  · obtain ⟨d, hv, ks, hd, rfl, h1, nd, hl, h4, k⟩ := h
    refine ⟨_, pss_one (ps_ret (pe_tup (pa_cons (pe_callTy call_tupP (by rfl) B.tuple (by decide +kernel) (pa_cons
      (pe_lc (own := [("host", 2)]) (g := gName 2) (tt := tYes) (te := tTup (tCons (tVar 2) (tCons (tDGet (tVar 0) (tVar 2)) tNil))) (by rfl) scLFence.nd (pi_list (pe_callB cr_sortedI (by rfl) B.sorted (by decide +kernel) (pa_cons (pe_callTy (call_list_dK rfl) (by rfl) B.list (by decide +kernel) (pa_cons (pv 0) pa_nil)) pa_nil)))
        (blkOk_by (own := [("host", 2)]) (N := ["keys", "holder", "host"]) (sc := defScope sLFence) (by decide +kernel)) (fun _ _ _ _ _ => pg_name (i := 2) scLFence.nd rfl (Or.inl rfl)) (fun _ _ _ _ _ => pts_nil)
        (fun _ _ _ _ _ => by exact (pe_tup (pa_cons (pv 2) (pa_cons (pe_dget (hu_of hr) (pv 0) (pv 2) (fun _ _ => rfl)) pa_nil))))) pa_nil)) (pa_cons (pv 1) pa_nil)))), ?_⟩
    refine ⟨_, rfl, d, _, rfl, h1, fun l1 hl1 => ?_⟩
    have e1 : (kvsOf ks).map (fun kv => kV kv.1) = (ks.map (·.1)).map V.int := by simp [kvsOf, kV]
    rw [e1]
    have s1 := same_new (o := .lst ((ks.map (·.1)).map V.int)) hl1
    refine ⟨l1, _, rfl, SqL.of upd_same, fun ns l2 hp ho hl2 => ?_⟩
    have s2 := s1.trans (same_new (o := .lst (ns.map V.int)) hl2)
    refine ⟨l2, rfl, ⟨_, SqL.of upd_same⟩, fun D hD => ?_⟩
    have nsl : ns.length = ks.length := by rw [hp.length_eq, List.length_map]
    have hin : ∀ n ∈ ns, ∃ v, look ks n = some v := fun n hn => by
      cases e : look ks n with
      | some v => exact ⟨v, rfl⟩
      | none => exact absurd (hp.mem_iff.mp hn) (look_none.mp e)
    refine lc_tups (ns.map fun n => [V.int n, V.int ((look ks n).getD 0)]) (by rw [List.length_map, List.length_map]) hD (SqL.of upd_same) (fun _ => rfl) (by rw [List.length_map, nsl]; exact Nat.le_of_lt (small1000 hl)) (fun i x c H' Q' hx hc sm q' => ?_) fun H' qs sm hDl pr => ?_
    · obtain ⟨n, hn, rfl⟩ := map_get hx
      rw [List.getElem?_map, hn] at hc
      cases hc
      obtain ⟨v, hv'⟩ := hin n (List.mem_of_getElem? hn)
      have hd1 := sm _ _ (s2 _ _ h1)
      have g := DGet.k (k := Sum.inl n) hd1
      rw [val_look, hv'] at g
      refine ⟨_, rfl, _, rfl, _, rfl, d, _, rfl, g, by show 2 ≤ sizeLine; decide, fun t ht => ?_⟩
      refine q' t _ (same_new ht) ?_
      show upd H' t _ t = some (.tup [V.int n, V.int ((look ks n).getD 0)])
      rw [hv']
      exact upd_same
    · refine ⟨D, _, rfl, SqL.of hDl, fun r o hr2 od => ?_⟩
      have s3 := s2.trans (sm.trans (same_new (o := .frz o (.tup (qs.map V.ref))) hr2))
      refine ⟨_, rfl, by show 2 ≤ sizeLine; decide, fun a ha => ?_⟩
      have s4 := same_new (o := .tup [V.ref r, hv]) ha
      refine k a (ns.map fun n => (n, (look ks n).getD 0)) _ (s3.trans s4) ⟨?_, ?_, ?_⟩ ⟨a, r, hv, rfl, SqT.of upd_same, ⟨qs, .inl ⟨o, s4 _ _ upd_same, od⟩, ?_⟩, h4.tk (TK.of (s3.trans s4))⟩
      · rw [List.map_map]
        show (ns.map fun n => n).Perm _
        rw [List.map_id']
        exact hp
      · rw [List.map_map]
        show (ns.map fun n => n).Pairwise _
        rw [List.map_id']
        exact ho
      · intro x hx
        obtain ⟨n, hn, rfl⟩ := List.mem_map.mp hx
        obtain ⟨v, hv'⟩ := hin n hn
        rw [hv']; rfl
      · exact Paired.mapR (g := fun (n : Int) => (n, (look ks n).getD 0)) (fun (q : Addr) (n : Int) e => ((same_new (o := .frz o (.tup (qs.map V.ref))) hr2).trans s4) _ _ e) (paired_ofmap (F := fun (q : Addr) (c : List V) => H' q = some (.tup c)) (g := fun (n : Int) => [V.int n, V.int ((look ks n).getD 0)]) pr)
end
end Sg

set_option Elab.async false
set_option linter.all false
set_option maxRecDepth 100000
set_option maxHeartbeats 4000000
namespace Sg
open PySem PySem.Spec PyProof.Rows L2
def spDueHold (K : PySem.W.Frag) : Sp := fun vs H Q _ => ∃ d hv h c word rest ks hd, vs = [.ref d, hv, .int h, .ref c] ∧ H d = some (.dK (kvsOf ks)) ∧ HoldV K H hv hd ∧ SqT K H c (.str word :: rest) ∧ CmdOk word rest ∧ ∀ H', Same H H' → Q (.str (regDue ks hd h word rest)) H'
def spDue (K : PySem.W.Frag) : Sp := fun vs H Q _ => ∃ d hv h key c word rest ks hd, vs = [.ref d, hv, .int h, optI key, .ref c] ∧ H d = some (.dK (kvsOf ks)) ∧ HoldV K H hv hd ∧ SqT K H c (.str word :: rest) ∧ CmdOk word rest ∧ ∀ H', Same H H' → Q (.str (due ks hd h key word rest)) H'
theorem hold_non {K : PySem.W.Frag} {H : Hp} {hv : V} {hd : Option (Int × Str)} (h : HoldV K H hv hd) : decide (hv = V.non) = hd.isNone := by
  cases hd with
  | none => cases (show hv = .non from h); rfl
  | some x => obtain ⟨q, rfl, _⟩ := h; rfl
theorem look_some {ks : List (Int × Int)} {h : Int} : ((look ks h).map V.int).isSome = (look ks h).isSome := by cases look ks h <;> rfl
section
variable {P : Program} {wrl : World} {K : PySem.W.Frag} {mg : Str → Option Value} {base : Heap} {f fG : Addr} {fd fdG : FuncData}
theorem scDueHold : FnScope ["keys", "holder", "host", "command"] ["keys", "holder", "host", "command"] (defScope sDueHold) := ⟨rfl, rfl, rfl, by decide +kernel, rfl, by decide +kernel, by decide +kernel⟩
theorem ok_dueHold (F : Fun K "_law_due_hold" "_law_due_hold" sDueHold f fd) : FnOk P wrl K mg base CX0 1 f fd ["keys", "holder", "host", "command"] (spDueHold K) := by
  refine F.ok scDueHold (fun vs H Q E h => ?_) (fun cdv A outer s H vs Q E hr h => ?_)
  · obtain ⟨d, hv, h, c, word, rest, ks, hd, rfl, _⟩ := h
    rfl
  · obtain ⟨d, hv, h, c, word, rest, ks, hd, rfl, h1, h4, hc, ok, q⟩ := h
    refine ⟨_, pss_cons (ps_if (pt_cmp (pc_dnotin (hu_of hr) (pv 2) (pv 0))) (pss_one (ps_ret pe_str)) pss_nil)
      (pss_cons (ps_if (PW.pt (pw_and (pt_cmpR op_eq (pe_ix ix_tup (pv 3) pe_int (fun _ _ => rfl)) pe_str (nomark _)) (pw_and (pt_cmpR op_notN (pv 1) pe_non (nomark _)) (pw_and1 (pt_cmpR (op_neD hr.units) (pv 1) (pe_tup (pa_cons (pv 2) (pa_cons (pe_ix ix_tup (pv 3) pe_int (fun _ _ => rfl)) pa_nil))) (nomark _)))))) (pss_one (ps_ret pe_str)) pss_nil)
      (pss_cons (ps_if (PW.pt (pw_and (pt_cmpR op_eq (pe_ix ix_tup (pv 3) pe_int (fun _ _ => rfl)) pe_str (nomark _)) (pw_and1 (PW.pt (pw_or (pt_cmpR op_isN (pv 1) pe_non (nomark _)) (pw_or1 (pt_cmpR op_ne (pe_ix ix_tup (pv 1) pe_int (fun _ _ => rfl)) (pv 2) (nomark _)))))))) (pss_one (ps_ret pe_str)) pss_nil)
      (pss_cons (ps_if (pt_cmpR op_eq (pe_ix ix_tup (pv 3) pe_int (fun _ _ => rfl)) pe_str (nomark _))
          (pss_cons (ps_if (pt_cmpR op_eq (pe_ix ix_tup (pv 3) pe_int (fun _ _ => rfl)) (pv 2) (nomark _)) (pss_one (ps_ret pe_str)) pss_nil)
          (pss_one (ps_if (pt_cmp (pc_dnotin (hu_of hr) (pe_ix ix_tup (pv 3) pe_int (fun _ _ => rfl)) (pv 0))) (pss_one (ps_ret pe_str)) pss_nil))) pss_nil)
      (pss_one (ps_ret pe_str))))), ?_⟩
    unfold regDue at q
    have word0 : ∀ H', TK H H' → ∀ (R : VK), R (.str word) H' → tOp (rIxT K) (tVar 3) (tC (.int 0)) [some (.ref d), some hv, some (.int h), some (.ref c)] H' R := fun H' t R r => ⟨_, rfl, c, _, _, _, rfl, rfl, sqT_tk hc t, atI_nat (j := 0) rfl, r⟩
    refine ifSn (b := (look ks h).isNone) (fun R r => ?_) (fun hb H1 s1 => ?_) (fun hb H1 s1 => ?_)
    · have g := DGet.k (k := Sum.inl h) h1
      refine ⟨_, rfl, _, rfl, d, _, rfl, g, _, rfl, ?_⟩
      rw [val_look, look_some]
      have e : (!(look ks h).isSome) = (look ks h).isNone := by cases look ks h <;> rfl
      rw [e]
      exact r H (Same.refl H)
    · have := q H1 s1
      rw [if_pos (by cases e : look ks h with | none => rfl | some v => rw [e] at hb; cases hb)] at this
      exact this
    have t1 := TK.of s1
    have hne : ¬ look ks h = none := by intro e; rw [e] at hb; cases hb
    have q1 : ∀ H', Same H1 H' → Q _ H' := fun H' s' => q H' (s1.trans s')
    rw [if_neg hne] at q1
    have h41 := h4.tk t1
    by_cases e1 : word = "reserve"
    · obtain ⟨n, w, rfl, wok⟩ := ok.res e1
      rw [if_pos e1] at q1
      have q2 : ∀ H', Same H1 H' → Q (.str (if hd = none ∨ hd = some (h, w) then "" else "conflict")) H' := q1
      refine ifSn (b := !decide (hd = none ∨ hd = some (h, w))) (fun R r => ?_) (fun hb2 H2 s2 => ?_) (fun hb2 H2 s2 => ?_)
      · refine word0 H1 t1 _ ⟨rfl, _, rfl, ?_⟩
        rw [decide_eq_true (show V.str word = V.str "reserve" by rw [e1])]
        refine iteT ⟨_, rfl, rfl, _, rfl, ?_⟩
        rw [hold_non h41]
        cases hd with
        | none =>
          refine iteF ?_
          rw [decide_eq_true (Or.inl rfl)] at r
          exact r H1 (Same.refl H1)
        | some x =>
          refine iteT ⟨_, rfl, _, rfl, _, rfl, c, _, _, _, rfl, rfl, sqT_tk hc t1, atI_nat (j := 2) rfl, by show 2 ≤ sizeLine; decide, fun t ht => ?_⟩
          have s2 := same_new (o := .tup [V.int h, V.str w]) ht
          refine ⟨_, _, (h41.tk (TK.of s2)).dp, .tup (SqT.of upd_same) (.cons (.int _) (.cons (.str _) .nil)), hold_shaped h41.sok, hold_shaped (hd := some (h, w)) wok, _, rfl, ?_⟩
          rw [show PyData.eqv (holdD (some x)) (.tuple [.int h, .str w]) = _ from hold_eqv (some x) (some (h, w))]
          have e : decide (some x = none ∨ some x = some (h, w)) = decide (some x = some (h, w)) := by
            rw [Bool.eq_iff_iff]; simp
          rw [e] at r
          exact r _ s2
      · have hf : ¬ (hd = none ∨ hd = some (h, w)) := by
          intro z; rw [decide_eq_true z] at hb2; cases hb2
        have := q2 H2 s2
        rw [if_neg hf] at this
        exact this
      · have hf : (hd = none ∨ hd = some (h, w)) := by
          by_cases z : hd = none ∨ hd = some (h, w)
          · exact z
          · rw [decide_eq_false z] at hb2; cases hb2
        have t2 := t1.trans (TK.of s2)
        refine word0 H2 t2 _ ⟨rfl, _, rfl, ?_⟩
        rw [str_eqF (show ¬ word = "release" by rw [e1]; decide)]
        refine iteF (iteF ?_)
        refine word0 H2 t2 _ ⟨rfl, _, rfl, ?_⟩
        rw [str_eqF (show ¬ word = "preempt" by rw [e1]; decide)]
        refine iteF ?_
        have := q2 H2 s2
        rw [if_pos hf] at this
        exact this
    rw [if_neg e1] at q1
    refine ifSn (b := false) (fun R r => ?_) (fun z => nomatch z) (fun _ H2 s2 => ?_)
    · refine word0 H1 t1 _ ⟨rfl, _, rfl, ?_⟩
      rw [str_eqF e1]
      exact iteF (r H1 (Same.refl H1))
    have t2 := t1.trans (TK.of s2)
    have h42 := h41.tk (TK.of s2)
    by_cases e2 : word = "release"
    · rw [if_pos e2] at q1
      refine ifSn (b := decide (wayV hd h = .non)) (fun R r => ?_) (fun hb2 H3 s3 => ?_) (fun hb2 H3 s3 => ?_)
      · refine word0 H2 t2 _ ⟨rfl, _, rfl, ?_⟩
        rw [decide_eq_true (show V.str word = V.str "release" by rw [e2])]
        refine iteT ⟨_, rfl, rfl, _, rfl, ?_⟩
        rw [hold_non h42]
        cases hd with
        | none => exact iteT (r H2 (Same.refl H2))
        | some x =>
          obtain ⟨g, w⟩ := x
          obtain ⟨t, rfl, ht, _⟩ := (show ∃ q, hv = .ref q ∧ SqT K H2 q [.int g, .str w] ∧ PyData.strOk w = true from h42)
          refine iteF ⟨_, rfl, t, _, _, _, rfl, rfl, ht, atI_nat (j := 0) rfl, _, rfl, rfl, _, rfl, ?_⟩
          by_cases e : g = h
          · subst e
            rw [decide_eq_false (show ¬ wayV (some (g, w)) g = V.non by rw [show wayV (some (g, w)) g = V.str w from if_pos rfl]; intro z; cases z)] at r
            rw [decide_eq_true rfl]
            exact r H2 (Same.refl H2)
          · rw [decide_eq_true (show wayV (some (g, w)) h = V.non from if_neg e)] at r
            rw [decide_eq_false (show ¬ V.int g = V.int h from fun z => e (by injection z))]
            exact r H2 (Same.refl H2)
      · have := q1 H3 (s2.trans s3)
        rw [if_pos (of_decide_eq_true hb2)] at this
        exact this
      · have := q1 H3 (s2.trans s3)
        rw [if_neg (of_decide_eq_false hb2)] at this
        refine word0 H3 (t2.trans (TK.of s3)) _ ⟨rfl, _, rfl, ?_⟩
        rw [str_eqF (show ¬ word = "preempt" by rw [e2]; decide)]
        exact iteF this
    rw [if_neg e2] at q1
    refine ifSn (b := false) (fun R r => ?_) (fun z => nomatch z) (fun _ H3 s3 => ?_)
    · refine word0 H2 t2 _ ⟨rfl, _, rfl, ?_⟩
      rw [str_eqF e2]
      exact iteF (r H2 (Same.refl H2))
    have s13 := s2.trans s3
    refine word0 H3 (t2.trans (TK.of s3)) _ ⟨rfl, _, rfl, ?_⟩
    by_cases e3 : word = "preempt"
    · rw [if_pos e3] at q1
      obtain ⟨n, v, rfl⟩ := ok.pre e3
      have q3 : Q (.str (preDue ks h v)) H3 := q1 H3 s13
      rw [decide_eq_true (show V.str word = V.str "preempt" by rw [e3])]
      unfold preDue at q3
      refine iteT ⟨_, rfl, c, _, _, _, rfl, rfl, sqT_tk hc (t2.trans (TK.of s3)), atI_nat (j := 2) rfl, _, rfl, rfl, _, rfl, ?_⟩
      by_cases ev : v = h
      · rw [if_pos ev] at q3
        rw [decide_eq_true (show V.int v = V.int h by rw [ev])]
        exact iteT q3
      · rw [if_neg ev] at q3
        rw [decide_eq_false (show ¬ V.int v = V.int h from fun z => ev (by injection z))]
        have g := DGet.k (k := Sum.inl v) (s13 _ _ (s1 _ _ h1))
        refine iteF ⟨_, rfl, c, _, _, _, rfl, rfl, sqT_tk hc (t2.trans (TK.of s3)), atI_nat (j := 2) rfl, _, rfl, d, _, rfl, g, _, rfl, ?_⟩
        rw [val_look, look_some]
        cases hl : look ks v with
        | none => rw [hl] at q3; exact iteT q3
        | some x =>
          rw [if_neg (by rw [hl]; exact fun z => nomatch z)] at q3
          exact iteF q3
    · rw [if_neg e3] at q1
      rw [str_eqF e3]
      exact iteF (q1 H3 s13)
end
end Sg

set_option Elab.async false
set_option linter.all false
set_option maxRecDepth 100000
set_option maxHeartbeats 4000000
namespace Sg
open PySem PySem.Spec PyProof.Rows L2
section
variable {P : Program} {wrl : World} {K : PySem.W.Frag} {mg : Str → Option Value} {base : Heap} {f fG : Addr} {fd fdG : FuncData}
theorem scDue : FnScope ["keys", "holder", "host", "key", "command", "name", "other"] ["keys", "holder", "host", "key", "command"] (defScope sDue) := ⟨rfl, rfl, rfl, by decide +kernel, rfl, by decide +kernel, by decide +kernel⟩
theorem sev_eq {x y : Str} : decide (V.str x = V.str y) = decide (x = y) := by
  by_cases e : x = y
  · subst e; rw [decide_eq_true rfl, decide_eq_true rfl]
  · rw [str_eqF e, decide_eq_false e]
theorem strIn5 {w a b c d e : Str} : strIn w [a, b, c, d, e] = (decide (w = a) || (decide (w = b) || (decide (w = c) || (decide (w = d) || decide (w = e))))) := by
  unfold strIn
  simp only [List.any_cons, List.any_nil, Bool.or_false, eq_comm]
theorem strIn2 {w a b : Str} : strIn w [a, b] = (decide (w = a) || decide (w = b)) := by
  unfold strIn
  simp only [List.any_cons, List.any_nil, Bool.or_false, eq_comm]
/-- another one holds it -/
def otherB (hd : Option (Int × Str)) (h : Int) : Bool := match hd with
  | none => false
  | some (g, _) => !decide (g = h)
def aloneB : Option (Int × Str) → Bool
  | none => false
  | some (_, w) => decide (w = "alone")
theorem keeps_eq {hd : Option (Int × Str)} {h : Int} {word : Str} : keepsOut hd h word = (otherB hd h && (strIn word changingL || (strIn word readingL && aloneB hd))) := by
  cases hd with
  | none => rfl
  | some x =>
    obtain ⟨g, w⟩ := x
    show (if g = h then false else strIn word changingL || (strIn word readingL && decide (w = "alone"))) = (!decide (g = h) && _)
    by_cases z : g = h
    · rw [if_pos z, decide_eq_true z]; rfl
    · rw [if_neg z, decide_eq_false z]; rfl
theorem strIn_reg {word : Str} (h : strIn word changingL = true ∨ strIn word readingL = true ∨ word = "register") : strIn word registeredL = false := by
  have h1 : ∀ w ∈ changingL, strIn w registeredL = false := by decide +kernel
  have h2 : ∀ w ∈ readingL, strIn w registeredL = false := by decide +kernel
  rcases h with h | h | rfl
  · unfold strIn at h
    obtain ⟨y, hy, e⟩ := List.any_eq_true.mp h
    rw [← of_decide_eq_true e]; exact h1 y hy
  · unfold strIn at h
    obtain ⟨y, hy, e⟩ := List.any_eq_true.mp h
    rw [← of_decide_eq_true e]; exact h2 y hy
  · decide +kernel
theorem reg_of {ks : List (Int × Int)} {hd : Option (Int × Str)} {h : Int} {word : Str} {rest : List V} (c : strIn word registeredL = false) (n : ¬ look ks h = none) : regDue ks hd h word rest = "" := by
  have e : ¬ word = "reserve" ∧ ¬ word = "release" ∧ ¬ word = "preempt" := by
    refine ⟨?_, ?_, ?_⟩ <;> (rintro rfl; exact absurd c (by decide +kernel))
  unfold regDue
  rw [if_neg n, if_neg e.1, if_neg e.2.1, if_neg e.2.2]
theorem ok_due (F : Fun K "_law_due" "_law_due" sDue f fd) (GG : Def P wrl K mg base CX0 "_law_due_hold" 1 ["keys", "holder", "host", "command"] (spDueHold K) fG fdG) :
    FnOk P wrl K mg base CX0 2 f fd ["keys", "holder", "host", "key", "command"] (spDue K) := by
  refine F.ok scDue (fun vs H Q E h => ?_) (fun cdv A outer s H vs Q E hr h => ?_)
  · obtain ⟨d, hv, h, key, c, word, rest, ks, hd, rfl, _⟩ := h
    rfl
  · obtain ⟨d, hv, h, key, c, word, rest, ks, hd, rfl, h1, h4, hc, ok, q⟩ := h
    have hnm := ok.nm
    refine ⟨_, pss_cons (ps_set (i := 5) scDue.nd rfl (Or.inl rfl) (pe_ix ix_tup (pv 4) pe_int (fun _ _ => rfl)))
      (pss_cons (ps_if (PW.pt (pw_and (pt_cmpR op_isN (pv 3) pe_non (nomark _)) (pw_and1 (pt_cmpR op_eq (pv 5) pe_str (nomark _))))) (pss_one (ps_ret pe_str)) pss_nil)
      (pss_cons (ps_if (PW.pt (pw_and (pt_cmpR op_notN (pv 3) pe_non (nomark _)) (pw_and1 (PW.pt (pw_or (pt_cmp (pc_dnotin (hu_of hr) (pv 2) (pv 0))) (pw_or1 (pt_cmpR op_ne (pe_dget (hu_of hr) (pv 0) (pv 2) (fun _ _ => rfl)) (pv 3) (nomark _)))))))) (pss_one (ps_ret pe_str)) pss_nil)
      (pss_cons (ps_if (PW.pt (pw_and (pt_cmpR op_isN (pv 3) pe_non (nomark _)) (pw_and1 (pt_cmp (pc_din (hu_of hr) (pv 2) (pv 0)))))) (pss_one (ps_ret pe_str)) pss_nil)
      (pss_cons (ps_if (PW.pt (pw_and (pt_cmpR op_isN (pv 3) pe_non (nomark _)) (pw_and (pt_cmpR (op_neE hr.units0) (pv 0) pe_dnewK (nomark _)) (pw_and (pt_cmpR op_ne (pv 5) pe_str (nomark _)) (pw_and1 (pt_cmpR op_ne (pv 5) pe_str (nomark _))))))) (pss_one (ps_ret pe_str)) pss_nil)
      (pss_cons (ps_set (i := 6) scDue.nd rfl (Or.inl rfl) (pe_and (pe_cmpR op_notN (pv 1) pe_non (nomark _)) (pe_one (pe_cmpR op_ne (pe_ix ix_tup (pv 1) pe_int (fun _ _ => rfl)) (pv 2) (nomark _)))))
      (pss_cons (ps_if (PW.pt (pw_or (pt_cmpR op_eq (pv 5) pe_str (nomark _)) (pw_or (pt_cmpR op_eq (pv 5) pe_str (nomark _)) (pw_or (pt_cmpR op_eq (pv 5) pe_str (nomark _)) (pw_or (pt_cmpR op_eq (pv 5) pe_str (nomark _)) (pw_or1 (pt_cmpR op_eq (pv 5) pe_str (nomark _))))))))
          (pss_cons (ps_if (pt_val (pv 6)) (pss_one (ps_ret pe_str)) pss_nil) (pss_one (ps_ret pe_str))) pss_nil)
      (pss_cons (ps_if (PW.pt (pw_or (pt_cmpR op_eq (pv 5) pe_str (nomark _)) (pw_or1 (pt_cmpR op_eq (pv 5) pe_str (nomark _)))))
          (pss_cons (ps_if (PW.pt (pw_and (pt_val (pv 6)) (pw_and1 (pt_cmpR op_eq (pe_ix ix_tup (pv 1) pe_int (fun _ _ => rfl)) pe_str (nomark _))))) (pss_one (ps_ret pe_str)) pss_nil) (pss_one (ps_ret pe_str))) pss_nil)
      (pss_cons (ps_if (pt_cmpR op_eq (pv 5) pe_str (nomark _)) (pss_one (ps_ret pe_str)) pss_nil)
      (pss_one (ps_ret (pe_call GG.ok hr (by rfl) GG.mg GG.kp GG.bd .nil pass0 (pa_cons (pv 0) (pa_cons (pv 1) (pa_cons (pv 2) (pa_cons (pv 4) pa_nil))))))))))))))), ?_⟩
    refine stSet0 (v := .str word) (fun R r => ⟨_, rfl, c, _, _, _, rfl, rfl, hc, atI_nat (j := 0) rfl, r⟩) ?_
    -- a register without a key
    refine ifSn (b := key.isNone && decide (word = "register")) (fun R r => ?_) (fun hb H1 s1 => ?_) (fun hb H1 s1 => ?_)
    · refine ⟨_, rfl, rfl, _, rfl, ?_⟩
      rw [opt_non]
      cases hk : key.isNone with
      | false => rw [hk] at r; exact iteF (r H (Same.refl H))
      | true =>
        rw [hk] at r
        refine iteT ⟨_, rfl, rfl, _, rfl, ?_⟩
        rw [sev_eq]
        exact r H (Same.refl H)
    · have := q H1 s1
      rw [Bool.and_eq_true] at hb
      cases key with
      | some k => cases hb.1
      | none =>
        obtain rfl := of_decide_eq_true hb.2
        have e : due ks hd h none "register" rest = "" := by
          unfold due
          rw [show keyBad ks h none "register" = false by simp [keyBad], show keepsOut hd h "register" = false by cases hd with | none => rfl | some x => obtain ⟨g, w⟩ := x; show (if g = h then false else strIn "register" changingL || (strIn "register" readingL && decide (w = "alone"))) = false; rw [show strIn "register" changingL = false by decide +kernel, show strIn "register" readingL = false by decide +kernel]; split <;> rfl]
          rw [if_neg (by decide), show strIn "register" registeredL = false by decide +kernel]
          rfl
        rw [e] at this
        exact this
    -- a key that is not the present one
    refine ifSn (b := key.isSome && !decide (look ks h = key)) (fun R r => ?_) (fun hb2 H2 s2 => ?_) (fun hb2 H2 s2 => ?_)
    · refine ⟨_, rfl, rfl, _, rfl, ?_⟩
      rw [opt_non]
      cases key with
      | none => exact iteF (r H1 (Same.refl H1))
      | some k =>
        have g := DGet.k (k := Sum.inl h) (s1 _ _ h1)
        refine iteT ⟨_, rfl, _, rfl, d, _, rfl, g, _, rfl, ?_⟩
        rw [val_look]
        rw [val_look] at g
        cases hl : look ks h with
        | none => rw [hl] at r; exact iteT (r H1 (Same.refl H1))
        | some v =>
          rw [hl] at r g
          refine iteF ⟨_, rfl, _, rfl, d, _, rfl, g, _, rfl, rfl, _, rfl, ?_⟩
          rw [show decide (V.int v = optI (some k)) = decide (some v = some k) from opt_eq (some v) (some k)]
          exact r H1 (Same.refl H1)
    · have := q H2 (s1.trans s2)
      rw [Bool.and_eq_true] at hb2
      cases key with
      | none => cases hb2.1
      | some k =>
        unfold due at this
        rw [show keyBad ks h (some k) word = true from hb2.2] at this
        exact this
    -- no key, but registered
    refine ifSn (b := key.isNone && (look ks h).isSome) (fun R r => ?_) (fun hb3 H3 s3 => ?_) (fun hb3 H3 s3 => ?_)
    · refine ⟨_, rfl, rfl, _, rfl, ?_⟩
      rw [opt_non]
      cases hk : key.isNone with
      | false => rw [hk] at r; exact iteF (r H2 (Same.refl H2))
      | true =>
        rw [hk] at r
        have g := DGet.k (k := Sum.inl h) ((s1.trans s2) _ _ h1)
        refine iteT ⟨_, rfl, _, rfl, d, _, rfl, g, _, rfl, ?_⟩
        rw [val_look, look_some]
        exact r H2 (Same.refl H2)
    · have := q H3 ((s1.trans s2).trans s3)
      rw [Bool.and_eq_true] at hb3
      cases key with
      | some k => cases hb3.1
      | none =>
        have hr0 : ¬ word = "register" := by
          intro e; rw [decide_eq_true e] at hb; cases hb
        have e : keyBad ks h none word = true := by
          show (if word = "register" then false else _) = true
          rw [if_neg hr0, hb3.2]; rfl
        unfold due at this
        rw [e] at this
        exact this
    -- no key, and others are registered
    refine ifSn (b := key.isNone && (!ks.isEmpty && !strIn word readingL)) (fun R r => ?_) (fun hb4 H4 s4 => ?_) (fun hb4 H4 s4 => ?_)
    · refine ⟨_, rfl, rfl, _, rfl, ?_⟩
      rw [opt_non]
      cases hk : key.isNone with
      | false => rw [hk] at r; exact iteF (r H3 (Same.refl H3))
      | true =>
        rw [hk] at r
        have h13 := ((s1.trans s2).trans s3) _ _ h1
        refine iteT ⟨_, rfl, fun e he => ?_⟩
        have s4 := same_new (o := .dK []) he
        refine ⟨d, e, kvsOf ks, rfl, rfl, s4 _ _ h13, upd_same, _, rfl, ?_⟩
        have e0 : (kvsOf ks).isEmpty = ks.isEmpty := by cases ks <;> rfl
        rw [e0]
        cases hem : ks.isEmpty with
        | true => rw [hem] at r; exact iteF (r _ s4)
        | false =>
          rw [hem, strIn2] at r
          refine iteT ⟨_, rfl, rfl, _, rfl, ?_⟩
          rw [sev_eq]
          cases d1 : decide (word = "read") with
          | true => rw [d1] at r; exact iteF (r _ s4)
          | false =>
            rw [d1] at r
            refine iteT ⟨_, rfl, rfl, _, rfl, ?_⟩
            rw [sev_eq]
            exact r _ s4
    · have := q H4 (((s1.trans s2).trans s3).trans s4)
      rw [Bool.and_eq_true] at hb4
      cases key with
      | some k => cases hb4.1
      | none =>
        have hr0 : ¬ word = "register" := by
          intro e; rw [decide_eq_true e] at hb; cases hb
        have e : keyBad ks h none word = true := by
          show (if word = "register" then false else _) = true
          rw [if_neg hr0, hb4.2, Bool.or_true]
        unfold due at this
        rw [e] at this
        exact this
    have s14 := ((s1.trans s2).trans s3).trans s4
    have kb : keyBad ks h key word = false := by
      cases key with
      | some k =>
        show (!decide (look ks h = some k)) = false
        exact hb2
      | none =>
        have hr0 : ¬ word = "register" := by
          intro e; rw [decide_eq_true e] at hb; cases hb
        show (if word = "register" then false else _) = false
        rw [if_neg hr0]
        have b3 : (look ks h).isSome = false := hb3
        have b4 : (!ks.isEmpty && !strIn word readingL) = false := hb4
        rw [b3, b4]; rfl
    have reg0 : word = "register" → key ≠ none := by
      intro e z
      rw [z, decide_eq_true e] at hb; cases hb
    have q1 : ∀ H', Same H4 H' → Q (.str (due ks hd h key word rest)) H' := fun H' s' => q H' (s14.trans s')
    unfold due at q1
    rw [kb, Bool.false_or] at q1
    clear q hb hb2 hb3 hb4
    -- other
    refine stSet (v := .bl (otherB hd h)) (fun R r => ?_) fun H5 s5 => ?_
    · refine ⟨_, rfl, rfl, _, rfl, ?_⟩
      have h44 := h4.tk (TK.of s14)
      rw [hold_non h44]
      cases hd with
      | none => exact iteF (r H4 (Same.refl H4))
      | some x =>
        obtain ⟨g, w⟩ := x
        obtain ⟨t, rfl, ht, _⟩ := (show ∃ q, hv = .ref q ∧ SqT K H4 q [.int g, .str w] ∧ PyData.strOk w = true from h44)
        refine iteT ⟨_, rfl, t, _, _, _, rfl, rfl, ht, atI_nat (j := 0) rfl, _, rfl, rfl, ?_⟩
        have e : decide (V.int g = V.int h) = decide (g = h) := by
          by_cases z : g = h
          · rw [decide_eq_true z, decide_eq_true (show V.int g = V.int h by rw [z])]
          · rw [decide_eq_false z, decide_eq_false (show ¬ V.int g = V.int h from fun y => z (by injection y))]
        rw [e]
        exact r H4 (Same.refl H4)
    have s15 := s14.trans s5
    have q2 : ∀ H', Same H5 H' → Q _ H' := fun H' s' => q1 H' (s5.trans s')
    rw [keeps_eq] at q2
    -- what changes
    refine ifSn (b := strIn word changingL) (fun R r => ?_) (fun hb H6 s6 => ?_) (fun hb H6 s6 => ?_)
    · rw [strIn5] at r
      refine ⟨_, rfl, rfl, _, rfl, ?_⟩
      rw [sev_eq]
      cases d1 : decide (word = "write") with
      | true => rw [d1] at r; exact iteT (r H5 (Same.refl H5))
      | false =>
        rw [d1] at r
        refine iteF ⟨_, rfl, rfl, _, rfl, ?_⟩
        rw [sev_eq]
        cases d2 : decide (word = "trim") with
        | true => rw [d2] at r; exact iteT (r H5 (Same.refl H5))
        | false =>
          rw [d2] at r
          refine iteF ⟨_, rfl, rfl, _, rfl, ?_⟩
          rw [sev_eq]
          cases d3 : decide (word = "snap") with
          | true => rw [d3] at r; exact iteT (r H5 (Same.refl H5))
          | false =>
            rw [d3] at r
            refine iteF ⟨_, rfl, rfl, _, rfl, ?_⟩
            rw [sev_eq]
            cases d4 : decide (word = "drop") with
            | true => rw [d4] at r; exact iteT (r H5 (Same.refl H5))
            | false =>
              rw [d4] at r
              refine iteF ⟨_, rfl, rfl, _, rfl, ?_⟩
              rw [sev_eq]
              exact r H5 (Same.refl H5)
    · rw [hb, strIn_reg (.inl hb), Bool.true_or, Bool.and_true] at q2
      refine ⟨_, rfl, _, rfl, ?_⟩
      have q3 := q2 H6 s6
      cases ho : otherB hd h with
      | true => rw [ho] at q3; exact iteT q3
      | false => rw [ho] at q3; exact iteF q3
    rw [hb, Bool.false_or] at q2
    -- what reads
    refine ifSn (b := strIn word readingL) (fun R r => ?_) (fun hb2 H7 s7 => ?_) (fun hb2 H7 s7 => ?_)
    · rw [strIn2] at r
      refine ⟨_, rfl, rfl, _, rfl, ?_⟩
      rw [sev_eq]
      cases d1 : decide (word = "read") with
      | true => rw [d1] at r; exact iteT (r H6 (Same.refl H6))
      | false =>
        rw [d1] at r
        refine iteF ⟨_, rfl, rfl, _, rfl, ?_⟩
        rw [sev_eq]
        exact r H6 (Same.refl H6)
    · rw [hb2, strIn_reg (.inr (.inl hb2)), Bool.true_and] at q2
      have q3 := q2 H7 (s6.trans s7)
      have h47 := h4.tk (TK.of ((s15.trans s6).trans s7))
      refine ⟨_, rfl, _, rfl, ?_⟩
      cases ho : otherB hd h with
      | false => rw [ho] at q3; exact iteF q3
      | true =>
        rw [ho] at q3
        cases hd with
        | none => cases ho
        | some x =>
          obtain ⟨g, w⟩ := x
          obtain ⟨t, rfl, ht, _⟩ := (show ∃ q, hv = .ref q ∧ SqT K H7 q [.int g, .str w] ∧ PyData.strOk w = true from h47)
          refine iteT ⟨_, rfl, t, _, _, _, rfl, rfl, ht, atI_nat (j := 1) rfl, rfl, _, rfl, ?_⟩
          rw [sev_eq]
          rw [show aloneB (some (g, w)) = decide (w = "alone") from rfl] at q3
          cases d1 : decide (w = "alone") with
          | true => rw [d1] at q3; exact iteT q3
          | false => rw [d1] at q3; exact iteF q3
    rw [hb2, Bool.false_and, Bool.and_false] at q2
    -- register
    refine ifSn (b := decide (word = "register")) (fun R r => ?_) (fun hb3 H8 s8 => ?_) (fun hb3 H8 s8 => ?_)
    · refine ⟨_, rfl, rfl, _, rfl, ?_⟩
      rw [sev_eq]
      exact r H7 (Same.refl H7)
    · rw [strIn_reg (.inr (.inr (of_decide_eq_true hb3)))] at q2
      exact q2 H8 ((s6.trans s7).trans s8)
    have q3 : ∀ H', Same H8 H' → Q _ H' := fun H' s' => q2 H' (((s6.trans s7).trans s8).trans s')
    have s18 := ((s15.trans s6).trans s7).trans s8
    have hreg : strIn word registeredL = true := by
      have : ∀ w ∈ namesL, strIn w changingL = false → strIn w readingL = false → decide (w = "register") = false → strIn w registeredL = true := by decide +kernel
      unfold strIn at hnm
      obtain ⟨y, hy, e⟩ := List.any_eq_true.mp hnm
      obtain rfl := of_decide_eq_true e
      exact this y hy hb hb2 hb3
    rw [hreg] at q3
    exact ⟨_, rfl, _, rfl, _, rfl, _, rfl, d, hv, h, c, word, rest, ks, hd, rfl, s18 _ _ h1, h4.tk (TK.of s18), sqT_tk hc (TK.of s18), ok, q3⟩
end
end Sg

set_option Elab.async false
set_option linter.all false
set_option maxRecDepth 100000
set_option maxHeartbeats 4000000
namespace Sg
open PySem PySem.Spec PyProof.Rows L2
/-- [x for x in t if ..]: what is left, in its order -/
theorem lc_filtT {K : PySem.W.Frag} {σ : L2.St} {H1 : Hp} {D a : Addr} {vs : List Nat} {j : Nat} {xs : List V} {tt : TT} {te : TE} {Qd : Hp → Prop} (f : V → Bool) (hD : H1 D = Option.none) (hx : SqT K H1 a xs) (hw : ∀ x, wipe ((wipe σ vs).set j (some x)) vs = wipe σ vs) (hz : xs.length ≤ sizeLine)
    (he : ∀ (x : V) (H' : Hp) (Q' : Bool → Hp → Prop), x ∈ xs → Same H1 H' → (∀ H'', Same H' H'' → Q' (f x) H'') → tt ((wipe σ vs).set j (some x)) H' Q')
    (hv : ∀ (x : V) (H' : Hp) (Q' : VK), x ∈ xs → Q' x H' → te ((wipe σ vs).set j (some x)) H' Q')
    (hd : ∀ H', Same H1 H' → H' D = some (.lst (xs.filter f)) → Qd H') :
    ∃ W : Nat → Nat → Hp → Prop, (∃ m, W 0 m (upd H1 D (.lst []))) ∧ ∀ i m H, W i m H →
      ((Itt K a).stop i H ∧ Qd H) ∨ ((Itt K a).go i H ∧ ∃ Nx : Hp → Prop, (∀ H', Nx H' → ∃ m', m' < m ∧ W (i + 1) m' H') ∧ ∀ x H', (Itt K a).yld i H x H' → gName j x (wipe σ vs) H' fun σ2 H2 => wipe σ2 vs = wipe σ vs ∧ tt σ2 H2 fun b H3 =>
        if b = true then te σ2 H3 fun y H4 => ∃ acc, H4 D = some (.lst acc) ∧ acc.length < sizeLine ∧ Nx (upd H4 D (.lst (acc ++ [y]))) else Nx H3) := by
  refine lc_tup (K := K) (a := a) (xs := xs) (fun i H' => i ≤ xs.length ∧ Same H1 H' ∧ H' D = some (.lst ((xs.take i).filter f))) ⟨Nat.zero_le _, same_new hD, by rw [List.take_zero]; exact upd_same⟩ (fun i H' _ ⟨_, sm, _⟩ => sqT_tk hx (TK.of sm)) ?_ ?_
  · rintro i x H' hi ⟨_, sm, hDl⟩
    have hil := (List.getElem?_eq_some_iff.mp hi).1
    have hm := List.mem_of_getElem? hi
    refine ⟨hw _, he x H' _ hm sm fun H'' s2 => ?_⟩
    have hD2 := s2 _ _ hDl
    have hlen : ((xs.take i).filter f).length ≤ i := Nat.le_trans (List.length_filter_le _ _) (by rw [List.length_take]; omega)
    cases hf : f x with
    | true =>
      rw [if_pos rfl]
      refine hv x H'' _ hm ⟨_, hD2, by omega, by omega, ?_, ?_⟩
      · intro y o hy'
        rw [upd_ne (ne_of_none hy' hD)]
        exact s2 _ _ (sm _ _ hy')
      · rw [upd_same, List.take_add_one, hi, List.filter_append]
        simp [hf]
    | false =>
      rw [if_neg Bool.false_ne_true]
      refine ⟨by omega, sm.trans s2, ?_⟩
      rw [hD2, List.take_add_one, hi, List.filter_append]
      simp [hf]
  · rintro H' ⟨_, sm, hDl⟩
    exact hd H' sm (by rw [List.take_length] at hDl; exact hDl)
/-! ### pairs in the heap -/
def kOf (H : Hp) : V → Int × Int
  | .ref t => match H t with
    | some (.tup [.int i, .int j]) => (i, j)
    | _ => (0, 0)
  | _ => (0, 0)
def PairV (H : Hp) (x : V) : Prop := ∃ t, x = .ref t ∧ H t = some (.tup [.int (kOf H x).1, .int (kOf H x).2])
theorem kOf_at {H : Hp} {t : Addr} {i j : Int} (h : H t = some (.tup [.int i, .int j])) : kOf H (.ref t) = (i, j) := by
  show (match H t with | some (.tup [.int i, .int j]) => (i, j) | _ => ((0 : Int), (0 : Int))) = (i, j)
  rw [h]
theorem pairV_at {H : Hp} {t : Addr} {i j : Int} (h : H t = some (.tup [.int i, .int j])) : PairV H (.ref t) := ⟨t, rfl, by rw [kOf_at h]; exact h⟩
theorem PairV.tk {H H' : Hp} {x : V} (h : PairV H x) (s : TK H H') : PairV H' x ∧ kOf H' x = kOf H x := by
  obtain ⟨t, rfl, e⟩ := h
  have e' := s.t _ _ e
  exact ⟨pairV_at e', kOf_at e'⟩
theorem regs_xs {K : PySem.W.Frag} {H : Hp} {r : Addr} {rs : List (Int × Int)} (h : RegsAt K H r rs) : ∃ xs, SqP K H r xs ∧ (∀ x ∈ xs, PairV H x) ∧ rs = xs.map (kOf H) := by
  obtain ⟨ps, h1, h2⟩ := h
  refine ⟨_, h1, ?_, ?_⟩
  · intro x hx
    obtain ⟨p, hp, rfl⟩ := List.mem_map.mp hx
    clear h1 hx
    induction h2 with
    | nil => cases hp
    | cons r t ih =>
      rcases List.mem_cons.mp hp with rfl | hp
      · exact pairV_at r
      · exact ih hp
  · clear h1
    induction h2 with
    | nil => rfl
    | cons r t ih => rw [List.map_cons, List.map_cons, ← ih, kOf_at r]
theorem xs_pair {H : Hp} : ∀ {xs : List V}, (∀ x ∈ xs, PairV H x) → ∃ ps : List Addr, xs = ps.map V.ref ∧ Paired (fun (p : Addr) (x : Int × Int) => H p = some (.tup [.int x.1, .int x.2])) ps (xs.map (kOf H))
  | [], _ => ⟨[], rfl, .nil⟩
  | x :: xs, h => by
    obtain ⟨ps, e, pr⟩ := xs_pair (xs := xs) fun y hy => h y (List.mem_cons_of_mem _ hy)
    obtain ⟨t, rfl, ht⟩ := h x List.mem_cons_self
    exact ⟨t :: ps, by rw [e]; rfl, .cons ht pr⟩
theorem regs_of {K : PySem.W.Frag} {H : Hp} {r : Addr} {xs : List V} (h1 : SqP K H r xs) (h2 : ∀ x ∈ xs, PairV H x) : RegsAt K H r (xs.map (kOf H)) := by
  obtain ⟨ps, rfl, pr⟩ := xs_pair h2
  exact ⟨ps, h1, pr⟩
theorem regs_len {K : PySem.W.Frag} {H : Hp} {r : Addr} {rs : List (Int × Int)} (h : RegsAt K H r rs) : ∃ ps : List Addr, SqP K H r (ps.map V.ref) ∧ ps.length = rs.length := by
  obtain ⟨ps, h1, h2⟩ := h
  exact ⟨ps, h1, h2.length⟩
def spWithHolder (K : PySem.W.Frag) : Sp := fun vs H Q _ => ∃ fv hv rs hd hd', vs = [fv, hv] ∧ FenceAt K H fv rs hd ∧ HoldV K H hv hd' ∧ ∀ a H', Same H H' → FenceAt K H' (.ref a) rs hd' → Q (.ref a) H'
def outR (rs : List (Int × Int)) (h : Int) : List (Int × Int) := rs.filter fun x => !decide (x.1 = h)
def spWithoutKey (K : PySem.W.Frag) : Sp := fun vs H Q _ => ∃ fv h rs hd, vs = [fv, .int h] ∧ FenceAt K H fv rs hd ∧ rs.length ≤ 1000 ∧ ∀ a H', Same H H' → FenceAt K H' (.ref a) (outR rs h) hd → Q (.ref a) H'
def spWithKey (K : PySem.W.Frag) : Sp := fun vs H Q _ => ∃ fv h k rs hd, vs = [fv, .int h, .int k] ∧ FenceAt K H fv rs hd ∧ rs.length ≤ 999 ∧ ∀ a rs' H', Same H H' → rs'.Perm (outR rs h ++ [(h, k)]) → (rs'.map (·.1)).Pairwise (· ≤ ·) → FenceAt K H' (.ref a) rs' hd → Q (.ref a) H'
section
variable {P : Program} {wrl : World} {K : PySem.W.Frag} {mg : Str → Option Value} {base : Heap} {f fO : Addr} {fd fdO : FuncData}
theorem scWithHolder : FnScope ["fence", "reservation", "registrations", "_"] ["fence", "reservation"] (defScope sWithHolder) := ⟨rfl, rfl, rfl, by decide +kernel, rfl, by decide +kernel, by decide +kernel⟩
theorem ok_withHolder (F : Fun K "with_holder" "with_holder" sWithHolder f fd) : FnOk P wrl K mg base CX0 1 f fd ["fence", "reservation"] (spWithHolder K) := by
  refine F.ok scWithHolder (fun vs H Q E h => ?_) (fun cdv A outer s H vs Q E hr h => ?_)
  · obtain ⟨fv, hv, rs, hd, hd', rfl, _⟩ := h
    rfl
  · obtain ⟨fv, hv', rs, hd, hd', rfl, ⟨a, r, hv, rfl, h1, h2, h4⟩, h5, q⟩ := h
    refine ⟨_, (pss_cons (ps_asg (pv 0) (pg_tup (by rfl) (pgs_cons (pg_name (i := 2) scWithHolder.nd rfl (Or.inl rfl)) (pgs_cons (pg_name (i := 3) scWithHolder.nd rfl (Or.inl rfl)) L2.pgs_nil))))
      (pss_one (ps_ret (pe_tup (pa_cons (pv 2) (pa_cons (pv 1) pa_nil)))))), ?_⟩
    refine ⟨_, rfl, a, _, rfl, h1, rfl, _, _, rfl, _, _, rfl, rfl, ?_⟩
    refine ⟨_, rfl, _, rfl, by show 2 ≤ sizeLine; decide, fun t ht => ?_⟩
    have s := same_new (o := .tup [V.ref r, hv']) ht
    exact q t _ s ⟨t, r, hv', rfl, SqT.of upd_same, h2.tk (TK.of s), h5.tk (TK.of s)⟩
theorem scWithoutKey : FnScope ["fence", "host", "registrations", "reservation", "row"] ["fence", "host"] (defScope sWithoutKey) := ⟨rfl, rfl, rfl, by decide +kernel, rfl, by decide +kernel, by decide +kernel⟩
theorem ok_withoutKey (F : Fun K "without_key" "without_key" sWithoutKey f fd) (B : LB mg) : FnOk P wrl K mg base CX0 1 f fd ["fence", "host"] (spWithoutKey K) := by
  refine F.ok scWithoutKey (fun vs H Q E h => ?_) (fun cdv A outer s H vs Q E hr h => ?_)
  · obtain ⟨fv, h, rs, hd, rfl, _⟩ := h
    rfl
  · obtain ⟨fv, h, rs, hd, rfl, ⟨a, r, hv, rfl, h1, h2, h4⟩, hl, q⟩ := h
    refine ⟨_, (pss_cons (ps_asg (pv 0) (pg_tup (by rfl) (pgs_cons (pg_name (i := 2) scWithoutKey.nd rfl (Or.inl rfl)) (pgs_cons (pg_name (i := 3) scWithoutKey.nd rfl (Or.inl rfl)) L2.pgs_nil))))
      (pss_one (ps_ret (pe_tup (pa_cons (pe_callTy call_tupP (by rfl) B.tuple (by decide +kernel) (pa_cons (pe_lc (own := [("row", 4)]) (g := gName 4) (tt := tTest (tOp rNe (tOp (rIxT K) (tVar 4) (tC (.int 0))) (tVar 1))) (te := tVar 4) (by rfl) scWithoutKey.nd (pi_tup (pv 2)) (blkOk_by (own := [("row", 4)]) (N := ["fence", "host", "registrations", "reservation", "row"]) (sc := defScope sWithoutKey) (by decide +kernel)) (fun _ _ _ _ _ => pg_name (i := 4) scWithoutKey.nd rfl (Or.inl rfl)) (fun _ _ _ _ _ => pts_one (pt_cmpR op_ne (pe_ix ix_tup (pv 4) pe_int (fun _ _ => rfl)) (pv 1) (nomark _))) (fun _ _ _ _ _ => by exact (pv 4))) pa_nil)) (pa_cons (pv 3) pa_nil)))))), ?_⟩
    refine ⟨_, rfl, a, _, rfl, h1, rfl, _, _, rfl, _, _, rfl, rfl, ?_⟩
    obtain ⟨xs, g1, g2, rfl⟩ := regs_xs h2
    rw [List.length_map] at hl
    refine ⟨_, rfl, r, rfl, ⟨_, g1.t⟩, fun D hD => ?_⟩
    refine lc_filtT (fun x => !decide ((kOf H x).1 = h)) hD g1.t (fun _ => rfl) (Nat.le_of_lt (small1000 hl)) (fun x H' Q' hm sm k => ?_) (fun x H' Q' hm k => ⟨_, rfl, k⟩) fun H' sm hDl => ?_
    · obtain ⟨t, rfl, ht⟩ := g2 x hm
      refine ⟨_, rfl, t, _, _, _, rfl, rfl, SqT.of (sm _ _ ht), atI_nat (j := 0) rfl, _, rfl, rfl, _, rfl, ?_⟩
      have e : decide (V.int (kOf H (.ref t)).1 = V.int h) = decide ((kOf H (.ref t)).1 = h) := by
        by_cases z : (kOf H (.ref t)).1 = h
        · rw [decide_eq_true z, decide_eq_true (show V.int _ = V.int h by rw [z])]
        · rw [decide_eq_false z, decide_eq_false (show ¬ V.int _ = V.int h from fun y => z (by injection y))]
      rw [e]
      exact k H' (Same.refl H')
    · refine ⟨D, _, rfl, SqL.of hDl, fun u o hu od => ?_⟩
      have s2 := sm.trans (same_new (o := .frz o (.tup (xs.filter fun x => !decide ((kOf H x).1 = h)))) hu)
      refine ⟨_, rfl, by show 2 ≤ sizeLine; decide, fun t ht => ?_⟩
      have s3 := s2.trans (same_new (o := .tup [V.ref u, hv]) ht)
      refine q t _ s3 ⟨t, u, hv, rfl, SqT.of upd_same, ?_, h4.tk (TK.of s3)⟩
      have pv := fun x (hx : x ∈ xs.filter fun x => !decide ((kOf H x).1 = h)) => (g2 x ((List.mem_filter.mp hx).1)).tk (TK.of s3)
      have rg := regs_of (K := K) (.inl ⟨o, (same_new (o := .tup [V.ref u, hv]) ht) _ _ upd_same, od⟩) (fun x hx => (pv x hx).1)
      have e : (xs.filter fun x => !decide ((kOf H x).1 = h)).map (kOf H) = outR (xs.map (kOf H)) h := by
        unfold outR
        rw [List.filter_map]
        rfl
      rw [List.map_congr_left (fun x hx => (pv x hx).2), e] at rg
      exact rg
theorem scWithKey : FnScope ["fence", "host", "key", "registrations", "reservation"] ["fence", "host", "key"] (defScope sWithKey) := ⟨rfl, rfl, rfl, by decide +kernel, rfl, by decide +kernel, by decide +kernel⟩
theorem ok_withKey (F : Fun K "with_key" "with_key" sWithKey f fd) (B : LB mg) (GO : Def P wrl K mg base CX0 "without_key" 1 ["fence", "host"] (spWithoutKey K) fO fdO) : FnOk P wrl K mg base CX0 2 f fd ["fence", "host", "key"] (spWithKey K) := by
  refine F.ok scWithKey (fun vs H Q E h => ?_) (fun cdv A outer s H vs Q E hr h => ?_)
  · obtain ⟨fv, h, k, rs, hd, rfl, _⟩ := h
    rfl
  · obtain ⟨fv, h, k, rs, hd, rfl, FA, hl, q⟩ := h
    refine ⟨_, (pss_cons (ps_asg (pe_call GO.ok hr (by rfl) GO.mg GO.kp GO.bd .nil pass0 (pa_cons (pv 0) (pa_cons (pv 1) pa_nil))) (pg_tup (by rfl) (pgs_cons (pg_name (i := 3) scWithKey.nd rfl (Or.inl rfl)) (pgs_cons (pg_name (i := 4) scWithKey.nd rfl (Or.inl rfl)) L2.pgs_nil))))
      (pss_one (ps_ret (pe_tup (pa_cons (pe_callTy call_tupP (by rfl) B.tuple (by decide +kernel) (pa_cons (pe_callB cr_sortedPO (by rfl) B.sorted (by decide +kernel) (pa_cons (pe_lst (StX.pa_star (pv 3) (pa_cons (pe_tup (pa_cons (pv 1) (pa_cons (pv 2) pa_nil))) pa_nil))) pa_nil)) pa_nil)) (pa_cons (pv 4) pa_nil)))))), ?_⟩
    refine ⟨_, rfl, _, rfl, fv, h, rs, hd, rfl, FA, by omega, fun a H1 s1 ⟨a', r, hv, ea, h1, h2, h4⟩ => ?_⟩
    cases ea
    refine ⟨a, _, rfl, h1, rfl, _, _, rfl, _, _, rfl, rfl, ?_⟩
    obtain ⟨xs, g1, g2, e⟩ := regs_xs h2
    have hxl : xs.length ≤ 999 := by
      have e2 := congrArg List.length e
      rw [List.length_map] at e2
      rw [← e2]
      exact Nat.le_trans (List.length_filter_le _ _) hl
    refine ⟨_, rfl, r, xs, rfl, .inl g1.t, _, rfl, _, rfl, by show 2 ≤ sizeLine; decide, fun t ht => ?_⟩
    have s2 := same_new (o := .tup [V.int h, V.int k]) ht
    have pv := fun x (hx : x ∈ xs) => (g2 x hx).tk (TK.of s2)
    refine ⟨by rw [List.length_append]; exact Nat.le_of_lt (small1000 (by simp only [List.length_cons, List.length_nil]; omega)), fun l hl => ?_⟩
    have s3 := same_new (o := .lst (xs ++ [V.ref t])) hl
    have pt : ∀ x ∈ xs ++ [V.ref t], PairV (upd H1 t (.tup [V.int h, V.int k])) x := fun x hx => by
      rcases List.mem_append.mp hx with hx | hx
      · exact (pv x hx).1
      · rw [List.mem_singleton.mp hx]; exact pairV_at upd_same
    have p3 := fun x (hx : x ∈ xs ++ [V.ref t]) => (pt x hx).tk (TK.of s3)
    refine ⟨l, _, kOf (upd (upd H1 t (.tup [V.int h, V.int k])) l (.lst (xs ++ [V.ref t]))), rfl, SqL.of upd_same, fun x hx => (p3 x hx).1, fun ys l2 so st hl2 => ?_⟩
    have s4 := same_new (o := .lst ys) hl2
    refine ⟨l2, _, rfl, SqL.of upd_same, fun u o hu od => ?_⟩
    have s5 := same_new (o := .frz o (.tup ys)) hu
    refine ⟨_, rfl, by show 2 ≤ sizeLine; decide, fun t3 ht3 => ?_⟩
    have s6 := same_new (o := .tup [V.ref u, hv]) ht3
    have s36 := s3.trans (s4.trans (s5.trans s6))
    have s16 := s1.trans (s2.trans s36)
    have my : ∀ y ∈ ys, y ∈ xs ++ [V.ref t] := fun y hy => st.perm.mem_iff.mp hy
    have p6 := fun y (hy : y ∈ ys) => (pt y (my y hy)).tk (TK.of s36)
    have rg := regs_of (K := K) (.inl ⟨o, s6 _ _ upd_same, od⟩) (fun y hy => (p6 y hy).1)
    rw [List.map_congr_left (fun y hy => (p6 y hy).2)] at rg
    refine q t3 (ys.map (kOf (upd H1 t (.tup [V.int h, V.int k])))) _ s16 ?_ ?_ ⟨t3, u, hv, rfl, SqT.of upd_same, rg, h4.tk (TK.of (s2.trans s36))⟩
    · refine (st.perm.map _).trans ?_
      rw [List.map_append, List.map_congr_left (fun x hx => (pv x hx).2), ← e]
      rw [show List.map (kOf (upd H1 t (.tup [V.int h, V.int k]))) [V.ref t] = [(h, k)] by rw [List.map_cons, kOf_at upd_same]; rfl]
    · rw [List.map_map, List.pairwise_map]
      refine List.Pairwise.imp_of_mem (fun {x y} hx hy hxy => ?_) so
      have a1 := SrtO.lexB_no.mp hxy
      rw [(p3 x (my x hx)).2, (p3 y (my y hy)).2] at a1
      show (kOf _ x).1 ≤ (kOf _ y).1
      omega
end
end Sg

set_option Elab.async false
set_option linter.all false
set_option maxRecDepth 100000
set_option maxHeartbeats 4000000
namespace Sg
open PySem PySem.Spec PyProof.Rows L2
/-- who holds behind a command that was not refused -/
def newHd (hd : Option (Int × Str)) (h : Int) (word : Str) (rest : List V) : Option (Int × Str) :=
  if word = "leave" then (if wayV hd h = .non then hd else none)
  else if word = "reserve" then some (h, secS rest)
  else if word = "release" then none
  else if word = "preempt" then (match hd with
    | some (g, w) => if g = secI rest then some (h, w) else some (g, w)
    | none => none)
  else hd
structure RsNew (rs : List (Int × Int)) (h : Int) (word : Str) (rest : List V) (order : Int) (rs' : List (Int × Int)) : Prop where
  reg : word = "register" → look rs h = none → rs'.Perm (outR rs h ++ [(h, order)]) ∧ (rs'.map (·.1)).Pairwise (· ≤ ·)
  lea : word = "leave" → rs' = outR rs h
  pre : word = "preempt" → rs' = outR rs (secI rest)
  no : ¬ (word = "register" ∧ look rs h = none) → ¬ word = "leave" → ¬ word = "preempt" → rs' = rs
def spCarry (K : PySem.W.Frag) : Sp := fun vs H Q _ => ∃ fv h c order word rest rs hd, vs = [fv, .int h, .ref c, .int order] ∧ FenceAt K H fv rs hd ∧ KNd rs ∧ rs.length ≤ 999 ∧ SqT K H c (.str word :: rest) ∧ CmdOk word rest ∧
  ∀ fv' rs' H', Same H H' → RsNew rs h word rest order rs' → FenceAt K H' fv' rs' (newHd hd h word rest) → Q fv' H'
structure KsNew (ks : List (Int × Int)) (es : List Int) (h : Int) (word : Str) (rest : List V) (order : Int) (ks' : List (Int × Int)) (es' : List Int) : Prop where
  reg : word = "register" → look ks h = none → ks' = ks ++ [(h, order)] ∧ es' = es
  lea : word = "leave" → ks' = outR ks h ∧ ∃ v, look ks h = some v ∧ es' = es ++ [v]
  pre : word = "preempt" → ks' = outR ks (secI rest) ∧ ∃ v, look ks (secI rest) = some v ∧ es' = es ++ [v]
  no : ¬ (word = "register" ∧ look ks h = none) → ¬ word = "leave" → ¬ word = "preempt" → ks' = ks ∧ es' = es
def spChange (K : PySem.W.Frag) : Sp := fun vs H Q _ => ∃ d hv h c order e word rest ks es hd, vs = [.ref d, hv, .int h, .ref c, .int order, .ref e] ∧ H d = some (.dK (kvsOf ks)) ∧ ks.length ≤ 1000 ∧ HoldV K H hv hd ∧ H e = some (.lst (es.map V.int)) ∧ es.length ≤ 999 ∧ SqT K H c (.str word :: rest) ∧ CmdOk word rest ∧
  (word = "leave" → ∃ v, look ks h = some v) ∧ (word = "preempt" → ∃ v, look ks (secI rest) = some v) ∧
  ∀ hv' ks' es' H', Off [d, e] H H' → H' d = some (.dK (kvsOf ks')) → H' e = some (.lst (es'.map V.int)) → KsNew ks es h word rest order ks' es' → HoldV K H' hv' (newHd hd h word rest) → Q hv' H'
theorem way_non {hd : Option (Int × Str)} {h : Int} : decide (wayV hd h = .non) = !(otherB hd h = false ∧ hd.isSome = true : Bool) := by
  cases hd with
  | none => rfl
  | some x =>
    obtain ⟨g, w⟩ := x
    show decide ((if g = h then V.str w else V.non) = .non) = !decide ((!decide (g = h)) = false ∧ true = true)
    by_cases e : g = h
    · simp [e]
    · simp [e]
theorem kvs_drop (ks : List (Int × Int)) (h : Int) : dropK (kvsOf ks) (Sum.inl h) = kvsOf (outR ks h) := by
  unfold dropK kvsOf outR
  rw [List.filter_map]
  congr 1
  refine List.filter_congr fun x _ => ?_
  show decide ((Sum.inl x.1 : Key) ≠ Sum.inl h) = !decide (x.1 = h)
  rw [Bool.eq_iff_iff]; simp
section
variable {P : Program} {wrl : World} {K : PySem.W.Frag} {mg : Str → Option Value} {base : Heap} {f fK fA fW fH fO : Addr} {fd fdK fdA fdW fdH fdO : FuncData}
theorem scCarry : FnScope ["fence", "host", "command", "order", "way"] ["fence", "host", "command", "order"] (defScope sCarry) := ⟨rfl, rfl, rfl, by decide +kernel, rfl, by decide +kernel, by decide +kernel⟩
theorem ok_carry (F : Fun K "_law_carry" "_law_carry" sCarry f fd) (GK : Def P wrl K mg base CX0 "key_of" 1 ["fence", "host"] (spKeyOf K) fK fdK) (GA : Def P wrl K mg base CX0 "with_key" 2 ["fence", "host", "key"] (spWithKey K) fA fdA) (GW : Def P wrl K mg base CX0 "holder_way" 1 ["fence", "host"] (spWay K) fW fdW)
    (GH : Def P wrl K mg base CX0 "with_holder" 1 ["fence", "reservation"] (spWithHolder K) fH fdH) (GO : Def P wrl K mg base CX0 "without_key" 1 ["fence", "host"] (spWithoutKey K) fO fdO) : FnOk P wrl K mg base CX0 3 f fd ["fence", "host", "command", "order"] (spCarry K) := by
  refine F.ok scCarry (fun vs H Q E h => ?_) (fun cdv A outer s H vs Q E hr h => ?_)
  · obtain ⟨fv, h, c, order, word, rest, rs, hd, rfl, _⟩ := h
    rfl
  · obtain ⟨fv, h, c, order, word, rest, rs, hd, rfl, FA, nd, hl, hc, ok, q⟩ := h
    have hr1 : Room 1 _ := hr.mono (by decide)
    refine ⟨_, (pss_cons (ps_if (PW.pt (pw_and (pt_cmpR op_eq (pe_ix ix_tup (pv 2) pe_int (fun _ _ => rfl)) pe_str (nomark _)) (pw_and1 (pt_cmpR op_isN (pe_call GK.ok hr1 (by rfl) GK.mg GK.kp GK.bd .nil pass0 (pa_cons (pv 0) (pa_cons (pv 1) pa_nil))) pe_non (nomark _)))))
      (pss_one (ps_ret (pe_call GA.ok hr (by rfl) GA.mg GA.kp GA.bd .nil pass0 (pa_cons (pv 0) (pa_cons (pv 1) (pa_cons (pv 3) pa_nil)))))) pss_nil)
      (pss_cons (ps_if (pt_cmpR op_eq (pe_ix ix_tup (pv 2) pe_int (fun _ _ => rfl)) pe_str (nomark _))
      (Evl.pss_cut (ps_if (pt_cmpR op_notN (pe_call GW.ok hr1 (by rfl) GW.mg GW.kp GW.bd .nil pass0 (pa_cons (pv 0) (pa_cons (pv 1) pa_nil))) pe_non (nomark _))
      (pss_one (ps_set (i := 0) scCarry.nd rfl (Or.inl rfl) (pe_call GH.ok hr1 (by rfl) GH.mg GH.kp GH.bd .nil pass0 (pa_cons (pv 0) (pa_cons pe_non pa_nil))))) pss_nil)
      (pss_one (ps_ret (pe_call GO.ok hr1 (by rfl) GO.mg GO.kp GO.bd .nil pass0 (pa_cons (pv 0) (pa_cons (pv 1) pa_nil)))))) pss_nil)
      (pss_cons (ps_if (pt_cmpR op_eq (pe_ix ix_tup (pv 2) pe_int (fun _ _ => rfl)) pe_str (nomark _))
      (pss_one (ps_ret (pe_call GH.ok hr1 (by rfl) GH.mg GH.kp GH.bd .nil pass0 (pa_cons (pv 0) (pa_cons (pe_tup (pa_cons (pv 1) (pa_cons (pe_ix ix_tup (pv 2) pe_int (fun _ _ => rfl)) pa_nil))) pa_nil))))) pss_nil)
      (pss_cons (ps_if (pt_cmpR op_eq (pe_ix ix_tup (pv 2) pe_int (fun _ _ => rfl)) pe_str (nomark _))
      (pss_one (ps_ret (pe_call GH.ok hr1 (by rfl) GH.mg GH.kp GH.bd .nil pass0 (pa_cons (pv 0) (pa_cons pe_non pa_nil))))) pss_nil)
      (pss_cons (ps_if (pt_cmpR op_eq (pe_ix ix_tup (pv 2) pe_int (fun _ _ => rfl)) pe_str (nomark _))
      (pss_cons (ps_set (i := 4) scCarry.nd rfl (Or.inl rfl) (pe_call GW.ok hr1 (by rfl) GW.mg GW.kp GW.bd .nil pass0 (pa_cons (pv 0) (pa_cons (pe_ix ix_tup (pv 2) pe_int (fun _ _ => rfl)) pa_nil))))
      (Evl.pss_cut (ps_if (pt_cmpR op_notN (pv 4) pe_non (nomark _))
      (pss_one (ps_set (i := 0) scCarry.nd rfl (Or.inl rfl) (pe_call GH.ok hr1 (by rfl) GH.mg GH.kp GH.bd .nil pass0 (pa_cons (pv 0) (pa_cons (pe_tup (pa_cons (pv 1) (pa_cons (pv 4) pa_nil))) pa_nil))))) pss_nil)
      (pss_one (ps_ret (pe_call GO.ok hr1 (by rfl) GO.mg GO.kp GO.bd .nil pass0 (pa_cons (pv 0) (pa_cons (pe_ix ix_tup (pv 2) pe_int (fun _ _ => rfl)) pa_nil))))))) pss_nil)
      (pss_one (ps_ret (pv 0)))))))), ?_⟩
    have word0 : ∀ H', TK H H' → ∀ (R : VK), R (.str word) H' → tOp (rIxT K) (tVar 2) (tC (.int 0)) [some fv, some (.int h), some (.ref c), some (.int order), none] H' R := fun H' t R r => ⟨_, rfl, c, _, _, _, rfl, rfl, sqT_tk hc t, atI_nat (j := 0) rfl, r⟩
    have no : ∀ {H1}, Same H H1 → ∀ w' : Str, ¬ word = w' → ∀ R : Bool → Hp → Prop, (∀ H', Same H1 H' → R false H') → tTest (tOp rEq (tOp (rIxT K) (tVar 2) (tC (.int 0))) (tC (.str w'))) [some fv, some (.int h), some (.ref c), some (.int order), none] H1 R := fun {H1} s1 w' e R r =>
      word0 H1 (TK.of s1) _ ⟨rfl, _, rfl, by rw [str_eqF e]; exact r H1 (Same.refl H1)⟩
    have yes : ∀ {H1}, Same H H1 → ∀ w' : Str, word = w' → ∀ R : Bool → Hp → Prop, (∀ H', Same H1 H' → R true H') → tTest (tOp rEq (tOp (rIxT K) (tVar 2) (tC (.int 0))) (tC (.str w'))) [some fv, some (.int h), some (.ref c), some (.int order), none] H1 R := fun {H1} s1 w' e R r =>
      word0 H1 (TK.of s1) _ ⟨rfl, _, rfl, by rw [e, str_eqT]; exact r H1 (Same.refl H1)⟩
    -- register
    refine ifSn (b := decide (word = "register") && (look rs h).isNone) (fun R r => ?_) (fun hb H1 s1 => ?_) (fun hb H1 s1 => ?_)
    · refine word0 H (TK.refl H) _ ⟨rfl, _, rfl, ?_⟩
      rw [sev_eq]
      cases e : decide (word = "register") with
      | false => rw [e] at r; exact iteF (r H (Same.refl H))
      | true =>
        rw [e] at r
        refine iteT ⟨_, rfl, _, rfl, fv, h, rs, hd, rfl, FA, nd, fun H1 s1 => ⟨rfl, _, rfl, ?_⟩⟩
        rw [opt_non]
        exact r H1 s1
    · rw [Bool.and_eq_true] at hb
      have e1 := of_decide_eq_true hb.1
      have e2 : look rs h = none := by cases z : look rs h with | none => rfl | some v => rw [z] at hb; cases hb.2
      refine ⟨_, rfl, _, rfl, _, rfl, fv, h, order, rs, hd, rfl, FA.tk (TK.of s1), hl, fun a rs' H' s' pm so fa => ?_⟩
      refine q _ rs' H' (s1.trans s') ⟨fun _ _ => ⟨pm, so⟩, fun z => absurd (e1.symm.trans z) (by decide), fun z => absurd (e1.symm.trans z) (by decide), fun z => absurd ⟨e1, e2⟩ z⟩ ?_
      unfold newHd
      rw [e1, if_neg (by decide), if_neg (by decide), if_neg (by decide), if_neg (by decide)]
      exact fa
    have nreg : ¬ (word = "register" ∧ look rs h = none) := by
      rintro ⟨z1, z2⟩
      rw [decide_eq_true z1, z2] at hb; cases hb
    by_cases e1 : word = "leave"
    · refine ifSn (b := true) (yes s1 _ e1) (fun _ H2 s2 => ?_) (fun z => nomatch z)
      have s12 := s1.trans s2
      refine ⟨fun σ H' => ∃ fv', Same H H' ∧ FenceAt K H' fv' rs (newHd hd h word rest) ∧ σ = [some fv', some (.int h), some (.ref c), some (.int order), none], ?_, ?_⟩
      · refine ⟨_, rfl, _, rfl, fv, h, rs, hd, rfl, FA.tk (TK.of s12), rfl, _, rfl, ?_⟩
        unfold newHd
        rw [if_pos e1]
        by_cases z : wayV hd h = .non
        · rw [decide_eq_true z, if_pos z]
          refine iteF ?_
          exact ⟨fv, s12, FA.tk (TK.of s12), rfl⟩
        · rw [decide_eq_false z, if_neg z]
          refine iteT ⟨_, rfl, fv, .non, rs, hd, none, rfl, FA.tk (TK.of s12), rfl, fun a H' s' fa => ⟨.ref a, s12.trans s', fa, rfl⟩⟩
      · rintro σ H' ⟨fv', s', fa, rfl⟩
        refine ⟨_, rfl, _, rfl, fv', h, rs, _, rfl, fa, by omega, fun a H'' s'' fa' => ?_⟩
        refine q _ _ H'' (s'.trans s'') ⟨fun z _ => absurd (e1.symm.trans z) (by decide), fun _ => rfl, fun z => absurd (e1.symm.trans z) (by decide), fun _ z => absurd e1 z⟩ fa'
    refine ifSn (b := false) (no s1 _ e1) (fun z => nomatch z) (fun _ H2 s2 => ?_)
    have s12 := s1.trans s2
    have same : ∀ rs', rs' = rs → ¬ word = "preempt" → RsNew rs h word rest order rs' := fun rs' e n => ⟨fun z1 z2 => absurd ⟨z1, z2⟩ nreg, fun z => absurd z e1, fun z => absurd z n, fun _ _ _ => e⟩
    by_cases e2 : word = "reserve"
    · refine ifSn (b := true) (yes s12 _ e2) (fun _ H3 s3 => ?_) (fun z => nomatch z)
      obtain ⟨n, w, rfl, wok⟩ := ok.res e2
      have s13 := s12.trans s3
      refine ⟨_, rfl, _, rfl, _, rfl, c, _, _, _, rfl, rfl, sqT_tk hc (TK.of s13), atI_nat (j := 2) rfl, by show 2 ≤ sizeLine; decide, fun t ht => ?_⟩
      have s4 := same_new (o := .tup [V.int h, V.str w]) ht
      have s14 := s13.trans s4
      refine ⟨fv, .ref t, rs, hd, some (h, w), rfl, FA.tk (TK.of s14), ⟨t, rfl, SqT.of upd_same, wok⟩, fun a H' s' fa => ?_⟩
      refine q _ rs H' (s14.trans s') (same rs rfl (by rw [e2]; decide)) ?_
      unfold newHd
      rw [if_neg e1, if_pos e2]
      exact fa
    refine ifSn (b := false) (no s12 _ e2) (fun z => nomatch z) (fun _ H3 s3 => ?_)
    have s13 := s12.trans s3
    by_cases e3 : word = "release"
    · refine ifSn (b := true) (yes s13 _ e3) (fun _ H4 s4 => ?_) (fun z => nomatch z)
      have s14 := s13.trans s4
      refine ⟨_, rfl, fv, .non, rs, hd, none, rfl, FA.tk (TK.of s14), rfl, fun a H' s' fa => ?_⟩
      refine q _ rs H' (s14.trans s') (same rs rfl (by rw [e3]; decide)) ?_
      unfold newHd
      rw [if_neg e1, if_neg e2, if_pos e3]
      exact fa
    refine ifSn (b := false) (no s13 _ e3) (fun z => nomatch z) (fun _ H4 s4 => ?_)
    have s14 := s13.trans s4
    by_cases e4 : word = "preempt"
    · refine ifSn (b := true) (yes s14 _ e4) (fun _ H5 s5 => ?_) (fun z => nomatch z)
      obtain ⟨n, v, rfl⟩ := ok.pre e4
      have s15 := s14.trans s5
      refine ⟨_, rfl, _, rfl, c, _, _, _, rfl, rfl, sqT_tk hc (TK.of s15), atI_nat (j := 2) rfl, fv, v, rs, hd, rfl, FA.tk (TK.of s15), ?_⟩
      refine ⟨fun σ H' => ∃ fv', Same H H' ∧ FenceAt K H' fv' rs (newHd hd h word [.int n, .int v]) ∧ σ = [some fv', some (.int h), some (.ref c), some (.int order), some (wayV hd v)], ?_, ?_⟩
      · refine ⟨_, rfl, rfl, _, rfl, ?_⟩
        unfold newHd
        rw [if_neg e1, if_neg e2, if_neg e3, if_pos e4]
        cases hd with
        | none =>
          refine iteF ?_
          exact ⟨fv, s15, FA.tk (TK.of s15), rfl⟩
        | some x =>
          obtain ⟨g, w⟩ := x
          have ok' : PyData.strOk w = true := by obtain ⟨_, _, _, _, _, _, h4⟩ := FA; obtain ⟨_, _, _, z⟩ := h4; exact z
          show (if (!decide ((if g = v then V.str w else V.non) = V.non)) = true then _ else _)
          by_cases z : g = v
          · subst z
            rw [if_pos rfl, decide_eq_false (show ¬ V.str w = V.non from fun z => nomatch z)]
            refine iteT ⟨_, rfl, _, rfl, _, rfl, by show 2 ≤ sizeLine; decide, fun t ht => ?_⟩
            rw [show wayV (some (g, w)) g = V.str w from if_pos rfl]
            have s6 := same_new (o := .tup [V.int h, V.str w]) ht
            have s16 := s15.trans s6
            refine ⟨fv, .ref t, rs, some (g, w), some (h, w), rfl, FA.tk (TK.of s16), ⟨t, rfl, SqT.of upd_same, ok'⟩, fun a H' s' fa => ⟨.ref a, s16.trans s', ?_, rfl⟩⟩
            show FenceAt K H' (.ref a) rs (if g = g then some (h, w) else some (g, w))
            rw [if_pos rfl]; exact fa
          · rw [if_neg z, decide_eq_true rfl]
            refine iteF ?_
            refine ⟨fv, s15, ?_, rfl⟩
            show FenceAt K H5 fv rs (if g = v then some (h, w) else some (g, w))
            rw [if_neg z]; exact FA.tk (TK.of s15)
      · rintro σ H' ⟨fv', s', fa, rfl⟩
        refine ⟨_, rfl, _, rfl, c, _, _, _, rfl, rfl, sqT_tk hc (TK.of s'), atI_nat (j := 2) rfl, fv', v, rs, _, rfl, fa, by omega, fun a H'' s'' fa' => ?_⟩
        exact q _ _ H'' (s'.trans s'') ⟨fun z1 z2 => absurd ⟨z1, z2⟩ nreg, fun z => absurd z e1, fun _ => rfl, fun _ _ z => absurd e4 z⟩ fa'
    refine ifSn (b := false) (no s14 _ e4) (fun z => nomatch z) (fun _ H5 s5 => ?_)
    refine ⟨_, rfl, q _ rs H5 (s14.trans s5) (same rs rfl e4) ?_⟩
    unfold newHd
    rw [if_neg e1, if_neg e2, if_neg e3, if_neg e4]
    exact FA.tk (TK.of (s14.trans s5))
theorem scChange : FnScope ["keys", "holder", "host", "command", "order", "ended"] ["keys", "holder", "host", "command", "order", "ended"] (defScope sChange) := ⟨rfl, rfl, rfl, by decide +kernel, rfl, by decide +kernel, by decide +kernel⟩
theorem ok_change (F : Fun K "_law_change" "_law_change" sChange f fd) : FnOk P wrl K mg base CX0 1 f fd ["keys", "holder", "host", "command", "order", "ended"] (spChange K) := by
  refine F.ok scChange (fun vs H Q E h => ?_) (fun cdv A outer s H vs Q E hr h => ?_)
  · obtain ⟨d, hv, h, c, order, e, word, rest, ks, es, hd, rfl, _⟩ := h
    rfl
  · obtain ⟨d, hv, h, c, order, e, word, rest, ks, es, hd, rfl, h1, hkl, h4, h5, hel, hc, ok, hle, hpr, q⟩ := h
    refine ⟨_, (Evl.pss_cut (ps_if (PW.pt (pw_and (pt_cmpR op_eq (pe_ix ix_tup (pv 3) pe_int (fun _ _ => rfl)) pe_str (nomark _)) (pw_and1 (pt_cmp (pc_dnotin (hu_of hr) (pv 2) (pv 0))))))
      (pss_one (ps_dput (hu_of hr) (pv 0) (pv 2) (pv 4) rfl)) (pss_one (ps_if (pt_cmpR op_eq (pe_ix ix_tup (pv 3) pe_int (fun _ _ => rfl)) pe_str (nomark _))
      (pss_cons (ps_expr (pe_bm PySem.F.plainAttrs_list PySem.F.slot_list_append PySem.F.type_list_append mt_append (pv 5) (pa_cons (pe_dpop1 (pv 0) (pv 2) ⟨rfl, rfl, rfl, rfl⟩) pa_nil)))
      (pss_one (ps_if (PW.pt (pw_and (pt_cmpR op_notN (pv 1) pe_non (nomark _)) (pw_and1 (pt_cmpR op_eq (pe_ix ix_tup (pv 1) pe_int (fun _ _ => rfl)) (pv 2) (nomark _)))))
      (pss_one (ps_ret pe_non)) pss_nil))) (pss_one (ps_if (pt_cmpR op_eq (pe_ix ix_tup (pv 3) pe_int (fun _ _ => rfl)) pe_str (nomark _))
      (pss_one (ps_ret (pe_tup (pa_cons (pv 2) (pa_cons (pe_ix ix_tup (pv 3) pe_int (fun _ _ => rfl)) pa_nil))))) (pss_one (ps_if (pt_cmpR op_eq (pe_ix ix_tup (pv 3) pe_int (fun _ _ => rfl)) pe_str (nomark _))
      (pss_one (ps_ret pe_non)) (pss_one (ps_if (pt_cmpR op_eq (pe_ix ix_tup (pv 3) pe_int (fun _ _ => rfl)) pe_str (nomark _))
      (pss_cons (ps_expr (pe_bm PySem.F.plainAttrs_list PySem.F.slot_list_append PySem.F.type_list_append mt_append (pv 5) (pa_cons (pe_dpop1 (pv 0) (pe_ix ix_tup (pv 3) pe_int (fun _ _ => rfl)) ⟨rfl, rfl, rfl, rfl⟩) pa_nil)))
      (pss_one (ps_if (PW.pt (pw_and (pt_cmpR op_notN (pv 1) pe_non (nomark _)) (pw_and1 (pt_cmpR op_eq (pe_ix ix_tup (pv 1) pe_int (fun _ _ => rfl)) (pe_ix ix_tup (pv 3) pe_int (fun _ _ => rfl)) (nomark _)))))
      (pss_one (ps_ret (pe_tup (pa_cons (pv 2) (pa_cons (pe_ix ix_tup (pv 1) pe_int (fun _ _ => rfl)) pa_nil))))) pss_nil))) pss_nil)))))))))
      (pss_one (ps_ret (pv 1)))), ?_⟩
    have word0 : ∀ (R : VK), R (.str word) H → tOp (rIxT K) (tVar 3) (tC (.int 0)) [some (.ref d), some hv, some (.int h), some (.ref c), some (.int order), some (.ref e)] H R := fun R r => ⟨_, rfl, c, _, _, _, rfl, rfl, hc, atI_nat (j := 0) rfl, r⟩
    have hde : d ≠ e := ne_of h1 h5 (fun z => nomatch z)
    refine ⟨fun σ H' => σ = [some (.ref d), some hv, some (.int h), some (.ref c), some (.int order), some (.ref e)] ∧ Q hv H', ?_, fun σ H' ⟨e1, q1⟩ => by subst e1; exact ⟨_, rfl, q1⟩⟩
    refine word0 _ ⟨rfl, _, rfl, ?_⟩
    rw [sev_eq]
    have toK : ∀ ks' es' H', Off [d, e] H H' → H' d = some (.dK (kvsOf ks')) → H' e = some (.lst (es'.map V.int)) → KsNew ks es h word rest order ks' es' → newHd hd h word rest = hd → Q hv H' := fun ks' es' H' o a b kn e1 =>
      q hv ks' es' H' o a b kn (by rw [e1]; exact h4.tk (TK.off o fun x hx => by
        rcases List.mem_cons.mp hx with rfl | hx
        · exact .inr ⟨_, h1⟩
        · rw [List.mem_singleton.mp hx]; exact .inl ⟨_, h5⟩))
    have tk : ∀ {H'}, Off [d, e] H H' → TK H H' := fun o => TK.off o fun x hx => by
        rcases List.mem_cons.mp hx with rfl | hx
        · exact .inr ⟨_, h1⟩
        · rw [List.mem_singleton.mp hx]; exact .inl ⟨_, h5⟩
    by_cases e1 : word = "register"
    · rw [decide_eq_true e1]
      refine iteT ?_
      have nh : newHd hd h word rest = hd := by
        unfold newHd
        rw [e1, if_neg (by decide), if_neg (by decide), if_neg (by decide), if_neg (by decide)]
      have kno : ∀ {ks' es'}, (look ks h = none → ks' = ks ++ [(h, order)] ∧ es' = es) → (¬ look ks h = none → ks' = ks ∧ es' = es) → KsNew ks es h word rest order ks' es' := fun a b =>
        ⟨fun _ z => a z, fun z => absurd (e1.symm.trans z) (by decide), fun z => absurd (e1.symm.trans z) (by decide), fun z _ _ => b fun y => z ⟨e1, y⟩⟩
      refine ⟨_, rfl, _, rfl, d, _, rfl, DGet.k (k := Sum.inl h) h1, _, rfl, ?_⟩
      rw [val_look, look_some]
      cases hl : look ks h with
      | none =>
        refine iteT ?_
        have hz : (kvsOf ks).length < sizeLine := small1000 (by show (List.map _ ks).length ≤ 1000; rw [List.length_map]; omega)
        refine ⟨_, rfl, _, rfl, _, rfl, d, _, rfl, DPut.k (k := Sum.inl h) h1 hz, rfl, ?_⟩
        have hnv : valV (kvsOf ks) (Sum.inl h) = none := by rw [val_look, hl]; rfl
        refine toK (ks ++ [(h, order)]) es _ (Off.upd (by simp)) ?_ ?_ (kno (fun _ => ⟨rfl, rfl⟩) fun z => absurd hl z) nh
        · rw [upd_same, put_new hnv]; simp [kvsOf]
        · rw [upd_ne (Ne.symm hde)]; exact h5
      | some v =>
        refine iteF ?_
        have nx : ∀ w' : Str, ¬ word = w' → ∀ {A B : Hp → Prop}, B H → tTest (tOp rEq (tOp (rIxT K) (tVar 3) (tC (.int 0))) (tC (.str w'))) [some (.ref d), some hv, some (.int h), some (.ref c), some (.int order), some (.ref e)] H (fun b H1 => if b = true then A H1 else B H1) := fun w' z A B y =>
          word0 _ ⟨rfl, _, rfl, by rw [str_eqF z]; exact iteF y⟩
        refine nx "leave" (by rw [e1]; decide) ?_
        refine nx "reserve" (by rw [e1]; decide) ?_
        refine nx "release" (by rw [e1]; decide) ?_
        refine nx "preempt" (by rw [e1]; decide) ?_
        exact ⟨rfl, toK ks es H (Off.refl H) h1 h5 (kno (fun z => absurd z (by rw [hl]; exact fun y => nomatch y)) fun _ => ⟨rfl, rfl⟩) nh⟩
    rw [decide_eq_false e1]
    refine iteF (iteF ?_)
    have nreg : ¬ (word = "register" ∧ look ks h = none) := fun z => e1 z.1
    have nx : ∀ w' : Str, ¬ word = w' → ∀ {A B : Hp → Prop}, B H → tTest (tOp rEq (tOp (rIxT K) (tVar 3) (tC (.int 0))) (tC (.str w'))) [some (.ref d), some hv, some (.int h), some (.ref c), some (.int order), some (.ref e)] H (fun b H1 => if b = true then A H1 else B H1) := fun w' z A B y =>
      word0 _ ⟨rfl, _, rfl, by rw [str_eqF z]; exact iteF y⟩
    have yx : ∀ w' : Str, word = w' → ∀ {A B : Hp → Prop}, A H → tTest (tOp rEq (tOp (rIxT K) (tVar 3) (tC (.int 0))) (tC (.str w'))) [some (.ref d), some hv, some (.int h), some (.ref c), some (.int order), some (.ref e)] H (fun b H1 => if b = true then A H1 else B H1) := fun w' z A B y =>
      word0 _ ⟨rfl, _, rfl, by rw [z, str_eqT]; exact iteT y⟩
    by_cases e2 : word = "leave"
    · refine yx "leave" e2 ?_
      obtain ⟨v, hl⟩ := hle e2
      have hval : valV (kvsOf ks) (Sum.inl h) = some (.int v) := by rw [val_look, hl]; rfl
      refine ⟨_, rfl, .inl ⟨rfl, _, SqL.of h5⟩, _, rfl, d, rfl, .inl ⟨_, .inl h1⟩, _, rfl, kvsOf ks, Sum.inl h, .int v, h1, rfl, hval, ?_⟩
      have h5' : upd H d (.dK (dropK (kvsOf ks) (Sum.inl h))) e = some (.lst (es.map V.int)) := by rw [upd_ne (Ne.symm hde)]; exact h5
      refine ⟨e, _, _, rfl, rfl, h5', small1000 (by rw [List.length_map]; omega), ?_⟩
      have o : Off [d, e] H (upd (upd H d (.dK (dropK (kvsOf ks) (Sum.inl h)))) e (.lst (es.map V.int ++ [.int v]))) := (Off.upd (by simp)).trans (Off.upd (by simp))
      have hd' : upd (upd H d (.dK (dropK (kvsOf ks) (Sum.inl h)))) e (.lst (es.map V.int ++ [.int v])) d = some (.dK (kvsOf (outR ks h))) := by rw [upd_ne hde, upd_same, kvs_drop]
      have he' : upd (upd H d (.dK (dropK (kvsOf ks) (Sum.inl h)))) e (.lst (es.map V.int ++ [.int v])) e = some (.lst ((es ++ [v]).map V.int)) := by rw [upd_same, List.map_append]; rfl
      have kn : KsNew ks es h word rest order (outR ks h) (es ++ [v]) := ⟨fun z => absurd z e1, fun _ => ⟨rfl, v, hl, rfl⟩, fun z => absurd (e2.symm.trans z) (by decide), fun _ z => absurd e2 z⟩
      have h4' := h4.tk (tk o)
      refine ⟨_, rfl, rfl, _, rfl, ?_⟩
      rw [hold_non h4]
      have nh : newHd hd h word rest = if wayV hd h = .non then hd else none := by unfold newHd; rw [if_pos e2]
      cases hd with
      | none =>
        refine iteF ?_
        show (if false = true then _ else tNext _ _ _)
        rw [if_neg Bool.false_ne_true]
        exact ⟨rfl, q hv _ _ _ o hd' he' kn (by rw [nh, if_pos (show wayV none h = .non from rfl)]; exact h4')⟩
      | some x =>
        obtain ⟨g, w⟩ := x
        obtain ⟨t, rfl, ht, _⟩ := (show ∃ q, hv = .ref q ∧ SqT K _ q [.int g, .str w] ∧ PyData.strOk w = true from h4')
        refine iteT ?_
        refine ⟨_, rfl, t, _, _, _, rfl, rfl, ht, atI_nat (j := 0) rfl, _, rfl, rfl, _, rfl, ?_⟩
        by_cases z : g = h
        · subst z
          rw [decide_eq_true rfl]
          refine iteT (q .non _ _ _ o hd' he' kn ?_)
          rw [nh, if_neg (by rw [show wayV (some (g, w)) g = V.str w from if_pos rfl]; exact fun z => nomatch z)]
          rfl
        · rw [decide_eq_false (show ¬ V.int g = V.int h from fun y => z (by injection y))]
          refine iteF ⟨rfl, q _ _ _ _ o hd' he' kn ?_⟩
          rw [nh, if_pos (show wayV (some (g, w)) h = .non from if_neg z)]
          exact h4'
    refine nx "leave" e2 ?_
    have same : ¬ word = "preempt" → KsNew ks es h word rest order ks es := fun z => ⟨fun y => absurd y e1, fun y => absurd y e2, fun y => absurd y z, fun _ _ _ => ⟨rfl, rfl⟩⟩
    by_cases e3 : word = "reserve"
    · refine yx "reserve" e3 ?_
      obtain ⟨n, w, rfl, wok⟩ := ok.res e3
      refine ⟨_, rfl, _, rfl, c, _, _, _, rfl, rfl, hc, atI_nat (j := 2) rfl, by show 2 ≤ sizeLine; decide, fun t ht => ?_⟩
      have s := same_new (o := .tup [V.int h, V.str w]) ht
      refine q _ ks es _ (Off.of s) (s _ _ h1) (s _ _ h5) (same (by rw [e3]; decide)) ?_
      unfold newHd
      rw [if_neg e2, if_pos e3]
      exact ⟨t, rfl, SqT.of upd_same, wok⟩
    refine nx "reserve" e3 ?_
    by_cases e4 : word = "release"
    · refine yx "release" e4 ?_
      refine q _ ks es _ (Off.refl H) h1 h5 (same (by rw [e4]; decide)) ?_
      unfold newHd
      rw [if_neg e2, if_neg e3, if_pos e4]
      rfl
    refine nx "release" e4 ?_
    by_cases e5 : word = "preempt"
    · refine yx "preempt" e5 ?_
      obtain ⟨n, vi, rfl⟩ := ok.pre e5
      obtain ⟨v, hl⟩ := hpr e5
      have hl : look ks vi = some v := hl
      have hval : valV (kvsOf ks) (Sum.inl vi) = some (.int v) := by rw [val_look, hl]; rfl
      refine ⟨_, rfl, .inl ⟨rfl, _, SqL.of h5⟩, _, rfl, d, rfl, .inl ⟨_, .inl h1⟩, _, rfl, c, _, _, _, rfl, rfl, hc, atI_nat (j := 2) rfl, kvsOf ks, Sum.inl vi, .int v, h1, rfl, hval, ?_⟩
      have h5' : upd H d (.dK (dropK (kvsOf ks) (Sum.inl vi))) e = some (.lst (es.map V.int)) := by rw [upd_ne (Ne.symm hde)]; exact h5
      refine ⟨e, _, _, rfl, rfl, h5', small1000 (by rw [List.length_map]; omega), ?_⟩
      have o : Off [d, e] H (upd (upd H d (.dK (dropK (kvsOf ks) (Sum.inl vi)))) e (.lst (es.map V.int ++ [.int v]))) := (Off.upd (by simp)).trans (Off.upd (by simp))
      have hd' : upd (upd H d (.dK (dropK (kvsOf ks) (Sum.inl vi)))) e (.lst (es.map V.int ++ [.int v])) d = some (.dK (kvsOf (outR ks vi))) := by rw [upd_ne hde, upd_same, kvs_drop]
      have he' : upd (upd H d (.dK (dropK (kvsOf ks) (Sum.inl vi)))) e (.lst (es.map V.int ++ [.int v])) e = some (.lst ((es ++ [v]).map V.int)) := by rw [upd_same, List.map_append]; rfl
      have kn : KsNew ks es h word [.int n, .int vi] order (outR ks vi) (es ++ [v]) := ⟨fun z => absurd z e1, fun z => absurd z e2, fun _ => ⟨rfl, v, hl, rfl⟩, fun _ _ z => absurd e5 z⟩
      have h4' := h4.tk (tk o)
      have hc' := sqT_tk hc (tk o)
      refine ⟨_, rfl, rfl, _, rfl, ?_⟩
      rw [hold_non h4]
      have nh : newHd hd h word [.int n, .int vi] = (match hd with
        | some (g, w) => if g = vi then some (h, w) else some (g, w)
        | none => none) := by
        unfold newHd
        rw [if_neg e2, if_neg e3, if_neg e4, if_pos e5]
        rfl
      cases hd with
      | none =>
        refine iteF ?_
        show (if false = true then _ else tNext _ _ _)
        rw [if_neg Bool.false_ne_true]
        exact ⟨rfl, q hv _ _ _ o hd' he' kn (by rw [nh]; exact h4')⟩
      | some x =>
        obtain ⟨g, w⟩ := x
        obtain ⟨t, rfl, ht, wok⟩ := (show ∃ q, hv = .ref q ∧ SqT K _ q [.int g, .str w] ∧ PyData.strOk w = true from h4')
        refine iteT ?_
        refine ⟨_, rfl, t, _, _, _, rfl, rfl, ht, atI_nat (j := 0) rfl, _, rfl, c, _, _, _, rfl, rfl, hc', atI_nat (j := 2) rfl, rfl, _, rfl, ?_⟩
        by_cases z : g = vi
        · subst z
          rw [decide_eq_true rfl]
          refine iteT ⟨_, rfl, _, rfl, t, _, _, _, rfl, rfl, ht, atI_nat (j := 1) rfl, by show 2 ≤ sizeLine; decide, fun t2 ht2 => ?_⟩
          have s := same_new (o := .tup [V.int h, V.str w]) ht2
          refine q _ _ _ _ (o.trans (Off.of s)) (s _ _ hd') (s _ _ he') kn ?_
          rw [nh, show (match some (g, w) with | some (g', w) => if g' = g then some (h, w) else some (g', w) | none => none) = some (h, w) from if_pos rfl]
          exact ⟨t2, rfl, SqT.of upd_same, wok⟩
        · rw [decide_eq_false (show ¬ V.int g = V.int vi from fun y => z (by injection y))]
          refine iteF ⟨rfl, q _ _ _ _ o hd' he' kn ?_⟩
          rw [nh, show (match some (g, w) with | some (g', w) => if g' = vi then some (h, w) else some (g', w) | none => none) = some (g, w) from if_neg z]
          exact h4'
    refine nx "preempt" e5 ?_
    refine ⟨rfl, toK ks es H (Off.refl H) h1 h5 (same e5) ?_⟩
    unfold newHd
    rw [if_neg e2, if_neg e3, if_neg e4, if_neg e5]
end
end Sg

set_option Elab.async false
set_option linter.all false
set_option maxRecDepth 100000
set_option maxHeartbeats 8000000
namespace Sg
open PySem PySem.Spec PyProof.Rows L2
theorem ints_lay : ∀ ns : List Int, PyData.canLayAll0 (ns.map PyData.int) = true
  | [] => by simp [PyData.canLayAll0]
  | n :: ns => by simp [PyData.canLayAll0, PyData.canLay0, ints_lay ns]
theorem ints_depth : ∀ ns : List Int, PyData.depthAll (ns.map PyData.int) = 0
  | [] => by simp [PyData.depthAll]
  | n :: ns => by simp [PyData.depthAll, PyData.depth, ints_depth ns]
theorem shaped_of {d : PyData} (h : d.canLay0 = true) (h' : d.depth ≤ 64) : SeqAt.shaped d = true := by
  show (d.canLay0 && decide (d.depth ≤ 64)) = true
  rw [Bool.and_eq_true]; exact ⟨h, decide_eq_true h'⟩
theorem ints_shaped (ns : List Int) : SeqAt.shaped (.list (ns.map PyData.int)) = true := shaped_of (by simp [PyData.canLay0, ints_lay]) (by simp [PyData.depth, ints_depth])
theorem dp_ints {K : PySem.W.Frag} {H : Hp} : ∀ {ns : List Int}, DpAll K H (ns.map V.int) (ns.map PyData.int)
  | [] => .nil
  | n :: ns => .cons (.int n) (dp_ints (ns := ns))
theorem list_ne_nil (ns : List Int) : (!PyData.eqv (.list (ns.map PyData.int)) (.list [])) = !ns.isEmpty := by
  cases ns <;> simp [PyData.eqv, PyData.eqvAll]
/-! ### fences as data -/
def regsD (rs : List (Int × Int)) : List PyData := rs.map fun x => .tuple [.int x.1, .int x.2]
def fenceD (rs : List (Int × Int)) (hd : Option (Int × Str)) : PyData := .tuple [.tuple (regsD rs), holdD hd]
theorem regs_dp {K : PySem.W.Frag} {H : Hp} : ∀ {ps : List Addr} {rs : List (Int × Int)}, Paired (fun (p : Addr) (x : Int × Int) => H p = some (.tup [.int x.1, .int x.2])) ps rs → DpAll K H (ps.map V.ref) (regsD rs)
  | _, _, .nil => .nil
  | _, _, .cons r t => .cons (.tup (SqT.of r) (.cons (.int _) (.cons (.int _) .nil))) (regs_dp t)
theorem FenceAt.dp {K : PySem.W.Frag} {H : Hp} {v : V} {rs : List (Int × Int)} {hd : Option (Int × Str)} (h : FenceAt K H v rs hd) : Dp K H v (fenceD rs hd) := by
  obtain ⟨a, r, hv, rfl, h1, ⟨ps, h2, h3⟩, h4⟩ := h
  exact .tup h1 (.cons (.tup h2.t (regs_dp h3)) (.cons h4.dp .nil))
theorem regs_lay : ∀ rs : List (Int × Int), PyData.canLayAll0 (regsD rs) = true
  | [] => by simp [regsD, PyData.canLayAll0]
  | x :: rs => by
    have := regs_lay rs
    simp [regsD, PyData.canLayAll0, PyData.canLay0] at this ⊢
    exact this
theorem regs_depth : ∀ rs : List (Int × Int), PyData.depthAll (regsD rs) ≤ 1
  | [] => by simp [regsD, PyData.depthAll]
  | x :: rs => by
    have := regs_depth rs
    simp [regsD, PyData.depthAll, PyData.depth] at this ⊢
    omega
theorem hold_lay {hd : Option (Int × Str)} (ok : hdOk hd) : (holdD hd).canLay0 = true ∧ (holdD hd).depth ≤ 1 := by
  cases hd with
  | none => exact ⟨rfl, by simp [holdD, PyData.depth]⟩
  | some x =>
    refine ⟨?_, by simp [holdD, PyData.depth, PyData.depthAll]⟩
    simp [holdD, PyData.canLay0, PyData.canLayAll0]; exact ok
theorem fence_shaped {rs : List (Int × Int)} {hd : Option (Int × Str)} (ok : hdOk hd) : SeqAt.shaped (fenceD rs hd) = true := by
  have h1 := regs_lay rs
  have h2 := regs_depth rs
  obtain ⟨h3, h4⟩ := hold_lay ok
  refine shaped_of ?_ ?_
  · simp [fenceD, PyData.canLay0, PyData.canLayAll0, h1, h3]
  · simp only [fenceD, PyData.depth, PyData.depthAll]; omega
theorem FenceAt.ok {K : PySem.W.Frag} {H : Hp} {v : V} {rs : List (Int × Int)} {hd : Option (Int × Str)} (h : FenceAt K H v rs hd) : hdOk hd := by
  obtain ⟨a, r, hv, rfl, h1, h2, h4⟩ := h
  exact h4.sok
/-! ### keys that have ended -/
structure KInv (ks : List (Int × Int)) (es : List Int) (n : Int) : Prop where
  nd : KNd ks
  vd : (ks.map (·.2)).Nodup
  lt : ∀ x ∈ ks, x.2 < n
  ne : ∀ x ∈ ks, x.2 ∉ es
  el : ∀ v ∈ es, v < n
theorem look_out {ks : List (Int × Int)} {h g : Int} : look (outR ks h) g = if g = h then none else look ks g := by
  induction ks with
  | nil => simp [outR, look_nil]
  | cons x ks ih =>
    obtain ⟨k, v⟩ := x
    by_cases e : k = h
    · have : outR ((k, v) :: ks) h = outR ks h := by unfold outR; rw [List.filter_cons_of_neg (by simp [e])]
      rw [this, ih]
      by_cases z : g = h
      · rw [if_pos z, if_pos z]
      · rw [if_neg z, if_neg z, look_neg (by rw [e]; exact fun y => z y.symm)]
    · have : outR ((k, v) :: ks) h = (k, v) :: outR ks h := by unfold outR; rw [List.filter_cons_of_pos (by simp [e])]
      rw [this]
      by_cases z : k = g
      · subst z; rw [look_pos, look_pos, if_neg e]
      · rw [look_neg z, look_neg z, ih]
theorem look_app {ks : List (Int × Int)} {h o g : Int} (hn : look ks h = none) : look (ks ++ [(h, o)]) g = if g = h then some o else look ks g := by
  induction ks with
  | nil =>
    by_cases z : g = h
    · subst z; rw [if_pos rfl]; exact look_pos
    · rw [if_neg z, List.nil_append, look_neg (fun y => z y.symm)]
  | cons x ks ih =>
    obtain ⟨k, v⟩ := x
    have hk : ¬ k = h := fun e => by subst e; rw [look_pos] at hn; cases hn
    rw [look_neg hk] at hn
    rw [List.cons_append]
    by_cases z : k = g
    · subst z; rw [look_pos, look_pos, if_neg hk]
    · rw [look_neg z, look_neg z, ih hn]
theorem out_none {rs : List (Int × Int)} {h : Int} (hn : look rs h = none) : outR rs h = rs := by
  unfold outR
  rw [List.filter_eq_self]
  intro x hx
  have := look_none.mp hn
  have : x.1 ≠ h := fun e => this (List.mem_map.mpr ⟨x, hx, e⟩)
  simp [this]
theorem out_fst {rs : List (Int × Int)} {h : Int} : (outR rs h).map (·.1) = (rs.map (·.1)).filter fun k => !decide (k = h) := by
  unfold outR
  rw [List.filter_map]
  rfl
theorem SortOf.out {ks rs : List (Int × Int)} {h : Int} (s : SortOf ks rs) : SortOf (outR ks h) (outR rs h) := by
  refine ⟨?_, ?_, fun x hx => ?_⟩
  · rw [out_fst, out_fst]; exact s.perm.filter _
  · rw [out_fst]; exact s.ord.filter _
  · obtain ⟨h1, h2⟩ := List.mem_filter.mp hx
    rw [look_out, if_neg (by simpa using h2)]
    exact s.val x h1
theorem SortOf.app {ks rs rs' : List (Int × Int)} {h o : Int} (s : SortOf ks rs) (hk : Sg.look ks h = none) (hr : Sg.look rs h = none) (p : rs'.Perm (outR rs h ++ [(h, o)])) (so : (rs'.map (·.1)).Pairwise (· ≤ ·)) : SortOf (ks ++ [(h, o)]) rs' := by
  rw [out_none hr] at p
  refine ⟨?_, so, fun x hx => ?_⟩
  · refine (p.map _).trans ?_
    rw [List.map_append, List.map_append]
    exact s.perm.append_right _
  · rw [look_app hk]
    rcases List.mem_append.mp (p.mem_iff.mp hx) with h1 | h1
    · rw [if_neg, s.val x h1]
      intro e
      exact look_none.mp hr (List.mem_map.mpr ⟨x, h1, e⟩)
    · cases List.mem_singleton.mp h1
      rw [if_pos rfl]
theorem snd_inj {x y : Int × Int} : ∀ {ks : List (Int × Int)}, (ks.map (·.2)).Nodup → x ∈ ks → y ∈ ks → x.2 = y.2 → x = y
  | [], _, hx, _, _ => nomatch hx
  | z :: ks, nd, hx, hy, e => by
    have nd' : z.2 ∉ ks.map (·.2) ∧ (ks.map (·.2)).Nodup := List.nodup_cons.mp nd
    rcases List.mem_cons.mp hx with ex | hx
    · rcases List.mem_cons.mp hy with ey | hy
      · rw [ex, ey]
      · exact absurd (List.mem_map.mpr ⟨y, hy, by rw [← e, ex]⟩) nd'.1
    · rcases List.mem_cons.mp hy with ey | hy
      · exact absurd (List.mem_map.mpr ⟨x, hx, by rw [e, ey]⟩) nd'.1
      · exact snd_inj nd'.2 hx hy e
theorem KInv.mono {ks : List (Int × Int)} {es : List Int} {n m : Int} (k : KInv ks es n) (h : n ≤ m) : KInv ks es m := ⟨k.nd, k.vd, fun x hx => Int.lt_of_lt_of_le (k.lt x hx) h, k.ne, fun x hx => Int.lt_of_lt_of_le (k.el x hx) h⟩
theorem KInv.app {ks : List (Int × Int)} {es : List Int} {n h : Int} (k : KInv ks es n) (hn : look ks h = none) : KInv (ks ++ [(h, n)]) es (n + 1) := by
  refine ⟨?_, ?_, ?_, ?_, fun x hx => by have := k.el x hx; omega⟩
  · show (List.map _ (ks ++ _)).Nodup
    rw [List.map_append, List.nodup_append]
    refine ⟨k.nd, by simp, fun u hu v hv => ?_⟩
    have : v = h := by simpa using hv
    rw [this]; exact fun e => look_none.mp hn (e ▸ hu)
  · rw [List.map_append, List.nodup_append]
    refine ⟨k.vd, by simp, fun u hu v hv => ?_⟩
    have hv' : v = n := by simpa using hv
    obtain ⟨x, hx, e⟩ := List.mem_map.mp hu
    have := k.lt x hx
    omega
  · intro x hx
    rcases List.mem_append.mp hx with h1 | h1
    · have := k.lt x h1; omega
    · cases List.mem_singleton.mp h1; show n < n + 1; omega
  · intro x hx
    rcases List.mem_append.mp hx with h1 | h1
    · exact k.ne x h1
    · cases List.mem_singleton.mp h1; exact fun m => by have := k.el _ m; omega
theorem KInv.out {ks : List (Int × Int)} {es : List Int} {n h v : Int} (k : KInv ks es n) (hn : look ks h = some v) : KInv (outR ks h) (es ++ [v]) (n + 1) := by
  have hm := mem_look hn
  have sub : ∀ x ∈ outR ks h, x ∈ ks ∧ x.1 ≠ h := fun x hx => by
    obtain ⟨h1, h2⟩ := List.mem_filter.mp hx
    exact ⟨h1, by simpa using h2⟩
  refine ⟨?_, ?_, fun x hx => by have := k.lt x (sub x hx).1; omega, ?_, ?_⟩
  · show (List.map _ _).Nodup
    rw [out_fst]; exact k.nd.filter _
  · exact (List.Sublist.map _ List.filter_sublist).nodup k.vd
  · intro x hx hm2
    rcases List.mem_append.mp hm2 with h1 | h1
    · exact k.ne x (sub x hx).1 h1
    · have e : x.2 = v := List.mem_singleton.mp h1
      have e2 := look_mem k.nd (sub x hx).1
      have : x = (h, v) := snd_inj k.vd (sub x hx).1 hm e
      exact (sub x hx).2 (by rw [this])
  · intro x hx
    rcases List.mem_append.mp hx with h1 | h1
    · have := k.el x h1; omega
    · have e := List.mem_singleton.mp h1
      have h3 : v < n := k.lt _ hm
      omega
/-- the holder is registered -/
def HReg (ks : List (Int × Int)) : Option (Int × Str) → Prop
  | none => True
  | some (g, _) => ¬ look ks g = none
/-- all of the law's own dict behind a command -/
theorem step_all {ks rs ks' rs' : List (Int × Int)} {es es' : List Int} {hd : Option (Int × Str)} {n h : Int} {key : Option Int} {word : Str} {rest : List V} (k : KInv ks es n) (s : SortOf ks rs) (hg : HReg ks hd) (ok : CmdOk word rest) (du : due ks hd h key word rest = "")
    (kn : KsNew ks es h word rest n ks' es') (rn : RsNew rs h word rest n rs') : KInv ks' es' (n + 1) ∧ SortOf ks' rs' ∧ HReg ks' (newHd hd h word rest) := by
  have lk := s.look k.nd h
  have dreg : strIn word registeredL = true → ¬ look ks h = none ∧ (word = "preempt" → ¬ secI rest = h ∧ ¬ look ks (secI rest) = none) := fun hr => by
    unfold due at du
    split at du
    · exact absurd du (by decide)
    · unfold regDue at du
      split at du
      · exact absurd du (by decide)
      · rename_i hne
        refine ⟨hne, fun e => ?_⟩
        rw [if_neg (by rw [e]; decide), if_neg (by rw [e]; decide), if_pos e] at du
        unfold preDue at du
        split at du
        · exact absurd du (by decide)
        · split at du
          · exact absurd du (by decide)
          · rename_i a b; exact ⟨a, b⟩
  by_cases e1 : word = "register" ∧ look ks h = none
  · obtain ⟨rfl, rfl⟩ := kn.reg e1.1 e1.2
    have hr : look rs h = none := by rw [lk]; exact e1.2
    obtain ⟨p, so⟩ := rn.reg e1.1 hr
    refine ⟨k.app e1.2, s.app e1.2 hr p so, ?_⟩
    unfold newHd
    rw [e1.1, if_neg (by decide), if_neg (by decide), if_neg (by decide), if_neg (by decide)]
    cases hd with
    | none => trivial
    | some x =>
      obtain ⟨g, w⟩ := x
      show ¬ look (ks ++ [(h, n)]) g = none
      rw [look_app e1.2]
      split
      · exact fun z => nomatch z
      · exact hg
  by_cases e2 : word = "leave"
  · obtain ⟨rfl, v, hv, rfl⟩ := kn.lea e2
    obtain rfl := rn.lea e2
    refine ⟨k.out hv, s.out, ?_⟩
    unfold newHd
    rw [if_pos e2]
    cases hd with
    | none => rw [if_pos (show wayV none h = .non from rfl)]; trivial
    | some x =>
      obtain ⟨g, w⟩ := x
      by_cases z : g = h
      · rw [if_neg (by rw [show wayV (some (g, w)) h = V.str w from if_pos z]; exact fun y => nomatch y)]; trivial
      · rw [if_pos (show wayV (some (g, w)) h = .non from if_neg z)]
        show ¬ look (outR ks h) g = none
        rw [look_out, if_neg z]; exact hg
  by_cases e3 : word = "preempt"
  · obtain ⟨rfl, v, hv, rfl⟩ := kn.pre e3
    obtain rfl := rn.pre e3
    obtain ⟨d1, d2⟩ := dreg (by rw [e3]; decide +kernel)
    obtain ⟨d3, d4⟩ := d2 e3
    refine ⟨k.out hv, s.out, ?_⟩
    unfold newHd
    rw [if_neg e2, if_neg (by rw [e3]; decide), if_neg (by rw [e3]; decide), if_pos e3]
    cases hd with
    | none => trivial
    | some x =>
      obtain ⟨g, w⟩ := x
      show HReg (outR ks (secI rest)) (if g = secI rest then some (h, w) else some (g, w))
      by_cases z : g = secI rest
      · rw [if_pos z]
        show ¬ look (outR ks (secI rest)) h = none
        rw [look_out, if_neg (fun y => d3 y.symm)]; exact d1
      · rw [if_neg z]
        show ¬ look (outR ks (secI rest)) g = none
        rw [look_out, if_neg z]; exact hg
  obtain ⟨rfl, rfl⟩ := kn.no e1 e2 e3
  obtain rfl := rn.no (by rw [lk]; exact e1) e2 e3
  refine ⟨k.mono (by omega), s, ?_⟩
  unfold newHd
  rw [if_neg e2, if_neg e3]
  by_cases e4 : word = "reserve"
  · rw [if_pos e4]
    exact (dreg (by rw [e4]; decide +kernel)).1
  · rw [if_neg e4]
    split
    · trivial
    · exact hg
/-! ### what stands while the law runs -/
structure JJ (K : PySem.W.Frag) (H : Hp) (p q d e : Addr) (hv fv : V) (ks rs : List (Int × Int)) (es : List Int) (hd : Option (Int × Str)) : Prop where
  tp : TapeAt K H p q
  kd : H d = some (.dK (kvsOf ks))
  ed : H e = some (.lst (es.map V.int))
  hh : HoldV K H hv hd
  ff : FenceAt K H fv rs hd
section
variable {K : PySem.W.Frag} {H H' : Hp} {p q d e : Addr} {hv fv : V} {ks rs : List (Int × Int)} {es : List Int} {hd : Option (Int × Str)}
theorem JJ.same (h : JJ K H p q d e hv fv ks rs es hd) (s : Same H H') : JJ K H' p q d e hv fv ks rs es hd := ⟨h.tp.same s, s _ _ h.kd, s _ _ h.ed, h.hh.tk (TK.of s), h.ff.tk (TK.of s)⟩
theorem JJ.off (h : JJ K H p q d e hv fv ks rs es hd) (pe : e ≠ p) (o : Off [p] H H') (t : TapeAt K H' p q) : JJ K H' p q d e hv fv ks rs es hd := by
  obtain ⟨l, hl⟩ := h.tp.lst
  have hne : d ≠ p := ne_of h.kd hl (fun z => nomatch z)
  exact ⟨t, o _ _ h.kd (by simpa using hne), o _ _ h.ed (by simpa using pe), h.hh.tk (h.tp.tk o), h.ff.tk (h.tp.tk o)⟩
end
structure NF (K : PySem.W.Frag) (mg : Str → Option Value) (aN aE : Addr) : Prop where
  gN : mg "NO_FENCE" = some (.ref aN)
  sN : ∀ H, SqT K H aN [.ref aE, .non]
  sE : ∀ H, SqP K H aE []
def spLaw (K : PySem.W.Frag) : Sp := fun vs H Q _ => ∃ (a : Addr) (ns : List Int), vs = [.ref a] ∧ SqL K H a (ns.map V.int) ∧ ns.length ≤ 63 ∧ ∀ H', Q (.bl true) H'
abbrev LN : List Str := ["script","tape","fence","keys","holder","ended","order","host","command","key","word","kept","after"]
section
variable {P : Program} {wrl : World} {K : PySem.W.Frag} {mg : Str → Option Value} {base : Heap} {f fN fC fR fD fL fY fE aN aE : Addr} {fd fdN fdC fdR fdD fdL fdY fdE : FuncData}
theorem scLaw : FnScope LN ["script"] (defScope sLaw) := ⟨rfl, rfl, rfl, by decide +kernel, rfl, by decide +kernel, by decide +kernel⟩
theorem ok_law (F : Fun K "law" "law" sLaw f fd) (B : LB mg) (T : NF K mg aN aE) (GN : Def P wrl K mg base CX0 "_law_next" 1 ["tape", "many"] (spNext K) fN fdN) (GC : Def P wrl K mg base CX0 "_law_command" 2 ["tape"] (spCommand K) fC fdC)
    (GR : Def P wrl K mg base CX0 "refusal" 4 ["fence", "host", "key", "command"] (spRefusal K) fR fdR) (GD : Def P wrl K mg base CX0 "_law_due" 2 ["keys", "holder", "host", "key", "command"] (spDue K) fD fdD)
    (GL : Def P wrl K mg base CX0 "_law_fence" 1 ["keys", "holder"] (spLFence K) fL fdL) (GY : Def P wrl K mg base CX0 "_law_carry" 3 ["fence", "host", "command", "order"] (spCarry K) fY fdY) (GE : Def P wrl K mg base CX0 "_law_change" 1 ["keys", "holder", "host", "command", "order", "ended"] (spChange K) fE fdE) :
    FnOk P wrl K mg base CX0 5 f fd ["script"] (spLaw K) := by
  refine F.ok scLaw (fun vs H Q E h => ?_) (fun cdv A outer s H vs Q E hr h => ?_)
  · obtain ⟨a, ns, rfl, _⟩ := h
    rfl
  · obtain ⟨a, ns, rfl, hS, hlen, k⟩ := h
    have hr1 : Room 1 _ := hr.mono (by decide)
    have hr2 : Room 2 _ := hr.mono (by decide)
    have hr3 : Room 3 _ := hr.mono (by decide)
    refine ⟨_, (pss_cons (ps_set (i := 1) scLaw.nd rfl (Or.inl rfl) (pe_lst (pa_cons (pe_callTy call_list_of (by rfl) B.list (by decide +kernel) (pa_cons (pv 0) pa_nil)) (pa_cons pe_int (pa_cons pe_int (pa_cons pe_int pa_nil))))))
      (pss_cons (ps_set (i := 2) scLaw.nd rfl (Or.inl rfl) (pe_glob (v := .ref aN) (by rfl) T.gN rfl))
      (pss_cons (ps_set (i := 3) scLaw.nd rfl (Or.inl rfl) pe_dnewK)
      (pss_cons (ps_set (i := 4) scLaw.nd rfl (Or.inl rfl) pe_non)
      (pss_cons (ps_set (i := 5) scLaw.nd rfl (Or.inl rfl) (pe_lst pa_nil))
      (pss_cons (ps_for PassesOwn.never rfl (pi_range2 (by rfl) B.range (pa_cons pe_int (pa_cons (pe_op op_add pe_int (pe_call GN.ok hr1 (by rfl) GN.mg GN.kp GN.bd .nil pass0 (pa_cons (pv 1) (pa_cons pe_int pa_nil)))) pa_nil))) (pg_name (i := 6) scLaw.nd rfl (Or.inl rfl))
      (pss_cons (ps_set (i := 7) scLaw.nd rfl (Or.inl rfl) (pe_call GN.ok hr1 (by rfl) GN.mg GN.kp GN.bd .nil pass0 (pa_cons (pv 1) (pa_cons pe_int pa_nil))))
      (pss_cons (ps_set (i := 8) scLaw.nd rfl (Or.inl rfl) (pe_call GC.ok hr2 (by rfl) GC.mg GC.kp GC.bd .nil pass0 (pa_cons (pv 1) pa_nil)))
      (pss_cons (ps_set (i := 9) scLaw.nd rfl (Or.inl rfl) (pe_dget1 (hu_of hr) (pv 3) (pv 7) ⟨rfl, rfl, rfl, rfl⟩))
      (Evl.pss_cut (ps_if (PW.pt (pw_and (pt_cmpR (op_neD hr.units) (pv 5) (pe_lst pa_nil) (nomark _)) (pw_and1 (pt_cmpR op_eq (pe_call GN.ok hr1 (by rfl) GN.mg GN.kp GN.bd .nil pass0 (pa_cons (pv 1) (pa_cons pe_int pa_nil))) pe_int (nomark _)))))
      (pss_cons (ps_set (i := 9) scLaw.nd rfl (Or.inl rfl) (pe_ix ix_list (pv 5) (pe_call GN.ok hr1 (by rfl) GN.mg GN.kp GN.bd .nil pass0 (pa_cons (pv 1) (pa_cons (pe_callB call_len_seq (by rfl) B.len PySem.boot_len (pa_cons (pv 5) pa_nil)) pa_nil))) (fun _ _ => rfl)))
      (pss_one (ps_if (pt_cmpR op_ne (pe_call GR.ok hr (by rfl) GR.mg GR.kp GR.bd .nil pass0 (pa_cons (pv 2) (pa_cons (pv 7) (pa_cons (pv 9) (pa_cons (pv 8) pa_nil))))) pe_str (nomark _))
      (pss_one (ps_ret pe_bl)) pss_nil))) pss_nil)
      (pss_cons (ps_set (i := 10) scLaw.nd rfl (Or.inl rfl) (pe_call GR.ok hr (by rfl) GR.mg GR.kp GR.bd .nil pass0 (pa_cons (pv 2) (pa_cons (pv 7) (pa_cons (pv 9) (pa_cons (pv 8) pa_nil))))))
      (pss_cons (ps_if (pt_cmpR op_ne (pv 10) (pe_call GD.ok hr2 (by rfl) GD.mg GD.kp GD.bd .nil pass0 (pa_cons (pv 3) (pa_cons (pv 4) (pa_cons (pv 7) (pa_cons (pv 9) (pa_cons (pv 8) pa_nil)))))) (nomark _))
      (pss_one (ps_ret pe_bl)) pss_nil)
      (Evl.pss_cut (ps_if (pt_cmpR op_eq (pv 10) pe_str (nomark _))
      (pss_cons (ps_set (i := 11) scLaw.nd rfl (Or.inl rfl) (pe_tup (pa_cons (pe_callTy call_tuple_of (by rfl) B.tuple (by decide +kernel) (pa_cons (pe_ix ix_tup (pv 2) pe_int (fun _ _ => rfl)) pa_nil)) (pa_cons (pe_ix ix_tup (pv 2) pe_int (fun _ _ => rfl)) pa_nil))))
      (pss_cons (ps_set (i := 12) scLaw.nd rfl (Or.inl rfl) (pe_call GY.ok hr3 (by rfl) GY.mg GY.kp GY.bd .nil pass0 (pa_cons (pv 2) (pa_cons (pv 7) (pa_cons (pv 8) (pa_cons (pv 6) pa_nil))))))
      (pss_cons (ps_if (pt_cmpR (op_neD hr.units) (pv 2) (pv 11) (nomark _))
      (pss_one (ps_ret pe_bl)) pss_nil)
      (pss_cons (ps_set (i := 2) scLaw.nd rfl (Or.inl rfl) (pv 12))
      (pss_one (ps_set (i := 4) scLaw.nd rfl (Or.inl rfl) (pe_call GE.ok hr1 (by rfl) GE.mg GE.kp GE.bd .nil pass0 (pa_cons (pv 3) (pa_cons (pv 4) (pa_cons (pv 7) (pa_cons (pv 8) (pa_cons (pv 6) (pa_cons (pv 5) pa_nil))))))))))))) pss_nil)
      (pss_one (ps_if (PW.pt (pw_or (pt_cmpR (op_neD hr.units) (pv 2) (pe_call GL.ok hr1 (by rfl) GL.mg GL.kp GL.bd .nil pass0 (pa_cons (pv 3) (pa_cons (pv 4) pa_nil))) (nomark _)) (pw_or1 (PW.pt (pw_and (pt_cmpR op_notN (pv 4) pe_non (nomark _)) (pw_and1 (pt_cmp (pc_dnotin (hu_of hr) (pe_ix ix_tup (pv 4) pe_int (fun _ _ => rfl)) (pv 3)))))))))
      (pss_one (ps_ret pe_bl)) pss_nil))))))))))
      (pss_one (ps_ret pe_bl)))))))), ?_⟩
    refine ⟨_, rfl, a, _, rfl, .inl hS, fun q hq => ?_⟩
    have sq := same_new (o := .lst (ns.map V.int)) hq
    refine ⟨by show 4 ≤ sizeLine; decide, fun p hp => ?_⟩
    have sp := same_new (o := .lst [.ref q, .int 0, .int 0, .int 5]) hp
    have tp0 : TapeAt K (upd (upd H q (.lst (ns.map V.int))) p (.lst [.ref q, .int 0, .int 0, .int 5])) p q :=
      ⟨ns, 0, 0, 5, upd_same, SqL.of (sp _ _ upd_same), ne_of_none upd_same hp, by decide, by decide, by decide⟩
    have hq1 : upd (upd H q (.lst (ns.map V.int))) p (.lst [.ref q, .int 0, .int 0, .int 5]) q = some (.lst (ns.map V.int)) := sp _ _ upd_same
    generalize hH0 : upd (upd H q (.lst (ns.map V.int))) p (.lst [.ref q, .int 0, .int 0, .int 5]) = H0 at tp0 hq1
    clear hH0 sp sq hp hq hS
    have ff0 : FenceAt K H0 (.ref aN) [] none := ⟨aN, aE, .non, rfl, T.sN _, ⟨[], T.sE _, .nil⟩, rfl⟩
    -- keys, holder, ended
    refine fun d hd => ?_
    have s1 := same_new (o := .dK []) hd
    refine ⟨by show 0 ≤ sizeLine; decide, fun e he => ?_⟩
    have s2 := s1.trans (same_new (o := .lst []) he)
    have J2 : JJ K (upd (upd H0 d (.dK [])) e (.lst [])) p q d e .non (.ref aN) [] [] [] none := ⟨tp0.same s2, (same_new (o := .lst []) he) _ _ upd_same, upd_same, rfl, ff0.tk (TK.of s2)⟩
    have pe : e ≠ p := fun z => by
      obtain ⟨x, hx⟩ := (tp0.same s1).lst
      rw [z, hx] at he; cases he
    have pq : e ≠ q := fun z => by
      have := s1 _ _ hq1
      rw [z, this] at he; cases he
    have pd : d ≠ q := fun z => by rw [z, hq1] at hd; cases hd
    have pd2 : d ≠ p := fun z => by
      obtain ⟨x, hx⟩ := tp0.lst
      rw [z, hx] at hd; cases hd
    generalize upd (upd H0 d (.dK [])) e (.lst []) = H2 at J2
    clear s1 s2 hd he ff0 tp0 hq1
    -- the loop
    refine ⟨_, rfl, p, q, 40, rfl, J2.tp, by decide, by decide, fun m H3 m0 m1 o3 t3 => ⟨_, _, rfl, rfl, _, _, rfl, ⟨by omega, by omega, by omega, by omega⟩, ?_⟩⟩
    have J3 := J2.off pe o3 t3
    refine for_range (lo := 1) (fun i σ H' => ∃ (hv fv : V) (v6 v7 v8 v9 v10 v11 v12 : Option V) (ks rs : List (Int × Int)) (es : List Int) (hd : Option (Int × Str)), σ = [some (.ref a), some (.ref p), some fv, some (.ref d), some hv, some (.ref e), v6, v7, v8, v9, v10, v11, v12] ∧
        JJ K H' p q d e hv fv ks rs es hd ∧ KInv ks es (1 + (i : Int)) ∧ SortOf ks rs ∧ HReg ks hd ∧ ks.length ≤ i ∧ es.length ≤ i)
      ⟨.non, .ref aN, _, _, _, _, _, _, _, [], [], [], none, rfl, J3, ⟨List.nodup_nil, List.nodup_nil, (fun _ h => nomatch h), (fun _ h => nomatch h), (fun _ h => nomatch h)⟩, ⟨List.Perm.nil, List.Pairwise.nil, (fun _ h => nomatch h)⟩, trivial, Nat.le_refl _, Nat.le_refl _⟩ ?_ ?_
    · rintro i σ H4 hi ⟨hv, fv, v6, v7, v8, v9, v10, v11, v12, ks, rs, es, hd, rfl, J4, ki, so, hg, hkl, hel⟩
      have hi41 : i < 41 := by omega
      have lrs : rs.length = ks.length := by have := so.perm.length_eq; simpa using this
      have ndr := so.nd ki.nd
      -- host
      refine ⟨_, rfl, p, q, 4, rfl, J4.tp, by decide, by decide, fun host H5 _ _ o5 t5 => ?_⟩
      have J5 := J4.off pe o5 t5
      -- command
      refine ⟨_, rfl, p, q, rfl, t5, fun c word rest H6 o6 t6 hc6 ok => ?_⟩
      have J6 := J5.off pe o6 t6
      -- key
      refine ⟨_, rfl, d, rfl, .inl ⟨_, .inl J6.kd⟩, _, rfl, _, DGet.k (k := Sum.inl host) J6.kd, ?_⟩
      rw [val_opt]
      refine ⟨fun σ H' => ∃ key : Option Int, σ = [some (.ref a), some (.ref p), some fv, some (.ref d), some hv, some (.ref e), some (.int (1 + (i : Int))), some (.int host), some (.ref c), some (optI key), v10, v11, v12] ∧ JJ K H' p q d e hv fv ks rs es hd ∧ SqT K H' c (.str word :: rest), ?_, ?_⟩
      · refine ⟨_, rfl, by show 0 ≤ sizeLine; decide, fun l hl => ?_⟩
        have s7 := same_new (o := .lst []) hl
        refine ⟨_, _, .lst (SqL.of (s7 _ _ J6.ed)) dp_ints, .lst (SqL.of upd_same) .nil, ints_shaped es, ints_shaped [], _, rfl, ?_⟩
        rw [list_ne_nil]
        have J7 := J6.same s7
        have hc7 := sqT_tk hc6 (TK.of s7)
        cases hem : es.isEmpty with
        | true =>
          refine iteF ?_
          show (if false = true then _ else tNext _ _ _)
          rw [if_neg Bool.false_ne_true]
          exact ⟨look ks host, rfl, J7, hc7⟩
        | false =>
          have epos : 0 < es.length := by cases es with | nil => cases hem | cons x l => simp
          refine iteT ?_
          refine ⟨_, rfl, p, q, 4, rfl, J7.tp, by decide, by decide, fun r H8 _ _ o8 t8 => ⟨rfl, _, rfl, ?_⟩⟩
          have J8 := J7.off pe o8 t8
          have hc8 := sqT_tk hc7 (J7.tp.tk o8)
          refine ite2 (fun hz => ?_) (fun hz => ⟨look ks host, rfl, J8, hc8⟩)
          refine ⟨_, rfl, _, rfl, _, rfl, e, _, rfl, .inl (SqL.of J8.ed), p, q, _, rfl, J8.tp, by rw [List.length_map]; omega, by rw [List.length_map]; omega, fun r2 H9 r0 r1 o9 t9 => ?_⟩
          rw [List.length_map] at r1
          have J9 := J8.off pe o9 t9
          have hc9 := sqT_tk hc8 (J8.tp.tk o9)
          have hr2 : r2.toNat < es.length := by omega
          refine ⟨e, _, _, V.int es[r2.toNat], rfl, rfl, SqL.of J9.ed, by have := atI_nat (get_map (f := V.int) (List.getElem?_eq_getElem hr2)); rw [show ((r2.toNat : Nat) : Int) = r2 by omega] at this; exact this, ?_⟩
          have hbad : due rs hd host (some es[r2.toNat]) word rest = "conflict" := by
            unfold due
            have kb : keyBad rs host (some es[r2.toNat]) word = true := by
              show (!decide (look rs host = some es[r2.toNat])) = true
              rw [decide_eq_false]
              · rfl
              · intro z
                exact ki.ne _ (mem_look (by rw [← so.look ki.nd]; exact z)) (List.getElem_mem hr2)
            rw [kb]; rfl
          dsimp only [gName]
          refine ifS (b := false) (fun R r => ?_) (fun z => nomatch z) (fun _ H10 s10 => ⟨some es[r2.toNat], rfl, J9.same s10, sqT_tk hc9 (TK.of s10)⟩)
          refine ⟨_, rfl, _, rfl, _, rfl, _, rfl, fv, host, some es[r2.toNat], c, word, rest, rs, hd, rfl, J9.ff, ndr, hc9, ok, fun H10 s10 => ⟨rfl, _, rfl, ?_⟩⟩
          rw [hbad, str_eqT]
          exact r H10 s10
      rintro σ H7 ⟨key, rfl, J7, hc7⟩
      have dc : due rs hd host key word rest = due ks hd host key word rest := due_congr (so.look ki.nd) so.emp _ _ _ _ _
      -- word
      refine ⟨_, rfl, _, rfl, _, rfl, _, rfl, fv, host, key, c, word, rest, rs, hd, rfl, J7.ff, ndr, hc7, ok, fun H8 s8 => ?_⟩
      have J8 := J7.same s8
      have hc8 := sqT_tk hc7 (TK.of s8)
      dsimp only [gName]
      refine ifSn (b := false) (fun R r => ?_) (fun z => nomatch z) (fun _ H9 s9 => ?_)
      · refine ⟨_, rfl, _, rfl, _, rfl, _, rfl, _, rfl, _, rfl, d, hv, host, key, c, word, rest, ks, hd, rfl, J8.kd, J8.hh, hc8, ok, fun H9 s9 => ⟨rfl, _, rfl, ?_⟩⟩
        rw [dc, str_eqT]
        exact r H9 s9
      have J9 := J8.same s9
      have hc9 := sqT_tk hc8 (TK.of s9)
      -- carried out
      refine ⟨fun σ H' => ∃ (hv fv : V) (v10 v11 v12 : Option V) (ks rs : List (Int × Int)) (es : List Int) (hd : Option (Int × Str)), σ = [some (.ref a), some (.ref p), some fv, some (.ref d), some hv, some (.ref e), some (.int (1 + (i : Int))), some (.int host), some (.ref c), some (optI key), v10, v11, v12] ∧
        JJ K H' p q d e hv fv ks rs es hd ∧ KInv ks es (1 + (i : Int) + 1) ∧ SortOf ks rs ∧ HReg ks hd ∧ ks.length ≤ i + 1 ∧ es.length ≤ i + 1, ?_, ?_⟩
      · refine ⟨_, rfl, rfl, _, rfl, ?_⟩
        rw [sev_eq]
        by_cases du : due rs hd host key word rest = ""
        · rw [decide_eq_true du]
          refine iteT ?_
          obtain ⟨a0, r0, hv0, rfl, f1, f2, f4⟩ := id J9.ff
          -- kept
          refine ⟨_, rfl, a0, _, _, _, rfl, rfl, f1, atI_nat (j := 0) rfl, ?_⟩
          obtain ⟨ps, g1, g2⟩ := id f2
          refine ⟨r0, _, rfl, .inr ⟨g1.t, ?_⟩⟩
          refine ⟨_, rfl, a0, _, _, _, rfl, rfl, f1, atI_nat (j := 1) rfl, by show 2 ≤ sizeLine; decide, fun t ht => ?_⟩
          have s10 := same_new (o := .tup [V.ref r0, hv0]) ht
          have J10 := J9.same s10
          have hkept : FenceAt K (upd H9 t (.tup [V.ref r0, hv0])) (.ref t) rs hd := ⟨t, r0, hv0, rfl, SqT.of upd_same, f2.tk (TK.of s10), f4.tk (TK.of s10)⟩
          have hc10 := sqT_tk hc9 (TK.of s10)
          -- after
          refine ⟨_, rfl, _, rfl, _, rfl, _, rfl, .ref a0, host, c, 1 + (i : Int), word, rest, rs, hd, rfl, J10.ff, ndr, by omega, hc10, ok, fun fv' rs' H11 s11 rn ff' => ?_⟩
          have J11 := J10.same s11
          have okf := J11.ff.ok
          dsimp only [gName]
          refine ifSn (b := false) (fun R r => ?_) (fun z => nomatch z) (fun _ H12 s12 => ?_)
          · refine ⟨_, rfl, _, rfl, _, _, J11.ff.dp, (hkept.tk (TK.of s11)).dp, fence_shaped okf, fence_shaped okf, _, rfl, ?_⟩
            rw [SeqAt.eqv_refl _ (SeqAt.canLay_of_shaped (fence_shaped okf))]
            exact r H11 (Same.refl H11)
          have J12 := J11.same s12
          have hc12 := sqT_tk hc10 (TK.of (s11.trans s12))
          refine ⟨_, rfl, ?_⟩
          have dreg : strIn word registeredL = true → ¬ look ks host = none ∧ (word = "preempt" → ¬ look ks (secI rest) = none) := fun hr => by
            have du2 := du
            rw [dc] at du2
            unfold due at du2
            split at du2
            · exact absurd du2 (by decide)
            · unfold regDue at du2
              split at du2
              · exact absurd du2 (by decide)
              · rename_i hne
                refine ⟨hne, fun e => ?_⟩
                rw [if_neg (by rw [e]; decide), if_neg (by rw [e]; decide), if_pos e] at du2
                unfold preDue at du2
                split at du2
                · exact absurd du2 (by decide)
                · split at du2
                  · exact absurd du2 (by decide)
                  · rename_i a b; exact b
          have ex : ∀ {o : Option Int}, ¬ o = none → ∃ v, o = some v := fun {o} h => by cases o with | none => exact absurd rfl h | some v => exact ⟨v, rfl⟩
          refine ⟨_, rfl, _, rfl, _, rfl, _, rfl, _, rfl, _, rfl, d, hv, host, c, 1 + (i : Int), e, word, rest, ks, es, hd, rfl, J12.kd, by omega, J12.hh, J12.ed, by omega, hc12, ok, fun z => ex (dreg (by rw [z]; decide +kernel)).1, fun z => ex ((dreg (by rw [z]; decide +kernel)).2 z), fun hv' ks' es' H13 o13 kd' ed' kn hh' => ?_⟩
          obtain ⟨k1, k2, k3⟩ := step_all ki so hg ok (by rw [← dc]; exact du) kn rn
          have tk13 : TK H12 H13 := TK.off o13 fun x hx => by
            rcases List.mem_cons.mp hx with rfl | hx
            · exact .inr ⟨_, J12.kd⟩
            · rw [List.mem_singleton.mp hx]; exact .inl ⟨_, J12.ed⟩
          have tp13 : TapeAt K H13 p q := J12.tp.off o13 (by simp [Ne.symm pd2, Ne.symm pe]) (by simp [Ne.symm pd, Ne.symm pq])
          have lk : ks'.length ≤ i + 1 ∧ es'.length ≤ i + 1 := by
            by_cases c1 : word = "register" ∧ look ks host = none
            · obtain ⟨rfl, rfl⟩ := kn.reg c1.1 c1.2
              rw [List.length_append]; simp only [List.length_cons, List.length_nil]; omega
            by_cases c2 : word = "leave"
            · obtain ⟨rfl, v, hv, rfl⟩ := kn.lea c2
              rw [List.length_append]; simp only [List.length_cons, List.length_nil]
              have := List.length_filter_le (fun x : Int × Int => !decide (x.1 = host)) ks
              unfold outR; omega
            by_cases c3 : word = "preempt"
            · obtain ⟨rfl, v, hv, rfl⟩ := kn.pre c3
              rw [List.length_append]; simp only [List.length_cons, List.length_nil]
              have := List.length_filter_le (fun x : Int × Int => !decide (x.1 = secI rest)) ks
              unfold outR; omega
            obtain ⟨rfl, rfl⟩ := kn.no c1 c2 c3
            omega
          exact ⟨hv', fv', _, _, _, ks', rs', es', _, rfl, ⟨tp13, kd', ed', hh', (ff'.tk (TK.of s12)).tk tk13⟩, k1, k2, k3, lk.1, lk.2⟩
        · rw [decide_eq_false du]
          refine iteF ?_
          exact ⟨hv, fv, _, _, _, ks, rs, es, hd, rfl, J9, ki.mono (by omega), so, hg, by omega, by omega⟩
      rintro σ H13 ⟨hv, fv, v10, v11, v12, ks, rs, es, hd, rfl, J, ki, so, hg, hkl, hel⟩
      refine ifS (b := false) (fun R r => ?_) (fun z => nomatch z) (fun _ H14 s14 => ?_)
      · refine ⟨_, rfl, _, rfl, _, rfl, d, hv, ks, hd, rfl, J.kd, ki.nd, by omega, J.hh, fun fa rs2 H14 s14 so2 ff2 => ?_⟩
        have e1 := so.one so2
        subst e1
        have okf := ff2.ok
        have J14 := J.same s14
        refine ⟨_, _, J14.ff.dp, ff2.dp, fence_shaped okf, fence_shaped okf, _, rfl, ?_⟩
        rw [SeqAt.eqv_refl _ (SeqAt.canLay_of_shaped (fence_shaped okf))]
        refine iteF ⟨_, rfl, rfl, _, rfl, ?_⟩
        rw [hold_non J14.hh]
        cases hd with
        | none => exact iteF (r H14 s14)
        | some x =>
          obtain ⟨g, w⟩ := x
          obtain ⟨t, rfl, ht, _⟩ := (show ∃ q, hv = .ref q ∧ SqT K H14 q [.int g, .str w] ∧ PyData.strOk w = true from J14.hh)
          refine iteT ⟨_, rfl, t, _, _, _, rfl, rfl, ht, atI_nat (j := 0) rfl, _, rfl, d, _, rfl, DGet.k (k := Sum.inl g) J14.kd, _, rfl, ?_⟩
          rw [val_look, look_some]
          have hgl : (look ks g).isSome = true := by
            cases hl : look ks g with
            | none => exact absurd hl hg
            | some v => rfl
          rw [hgl]
          exact r H14 s14
      · refine ⟨hv, fv, _, _, _, _, _, _, _, ks, rs, es, hd, rfl, J.same s14, ?_, so, hg, hkl, hel⟩
        have e : (1 + ((i + 1 : Nat) : Int)) = 1 + (i : Int) + 1 := by omega
        rw [e]; exact ki
    · rintro σ H' ⟨hv, fv, v6, v7, v8, v9, v10, v11, v12, ks, rs, es, hd, rfl, _⟩
      exact k _
end
end Sg

set_option Elab.async false
set_option linter.all false
set_option maxRecDepth 100000
set_option maxHeartbeats 8000000
namespace Sg
open PySem PySem.Spec PyProof.Rows L2
theorem all_mk {l : PySem.W.OpenLaw} {w : World} {K : PySem.W.Frag} {h : Heap} {mg : Str → Option Value} {fa fKo fHw fRf fWk fWo fWh fRk fKp fRr fRp fN fC fLf fDh fDu fCa fCg fL aRe aCh aOr aNf aEe : Addr} (X : K.In h) (G : h.Ns mainGlobals mg) (hfa : mg "law" = some (.ref fa))
    {odKo anKo odHw anHw odRf anRf odWk anWk odWo anWo odWh anWh odRk anRk odKp anKp odRr anRr odRp anRp odN anN odC anC odLf anLf odDh anDh odDu anDu odCa anCa odCg anCg odL anL dRe dCh dOr dNf : Option Addr} {slKo slHw slRf slWk slWo slWh slRk slKp slRr slRp slN slC slLf slDh slDu slCa slCg slL sRe sCh sOr sNf sEe : Array (Option Value)} {ocKo kVKo dcKo pmKo cdKo ctKo ocHw kVHw dcHw pmHw cdHw ctHw ocRf kVRf dcRf pmRf cdRf ctRf ocWk kVWk dcWk pmWk cdWk ctWk ocWo kVWo dcWo pmWo cdWo ctWo ocWh kVWh dcWh pmWh cdWh ctWh ocRk kVRk dcRk pmRk cdRk ctRk ocKp kVKp dcKp pmKp cdKp ctKp ocRr kVRr dcRr pmRr cdRr ctRr ocRp kVRp dcRp pmRp cdRp ctRp ocN kVN dcN pmN cdN ctN ocC kVC dcC pmC cdC ctC ocLf kVLf dcLf pmLf cdLf ctLf ocDh kVDh dcDh pmDh cdDh ctDh ocDu kVDu dcDu pmDu cdDu ctDu ocCa kVCa dcCa pmCa cdCa ctCa ocCg kVCg dcCg pmCg cdCg ctCg ocL kVL dcL pmL cdL ctL : Value} {uRe_0 uRe_1 uCh_0 uCh_1 uCh_2 uCh_3 uCh_4 uOr_0 uOr_1 uOr_2 uOr_3 : Tok} {nRe nCh nOr nNf nEe : Nat} 
    (aKo : PySem.W.nsIn K mainGlobals "key_of" = some (some (.ref fKo)))
    (lKo : K.lookup fKo = some ⟨ocKo, odKo, .func (PySem.W.fnOf "key_of" "key_of" (defArgs sKeyOf) (defBody sKeyOf) (defScope sKeyOf) .none kVKo dcKo pmKo anKo cdKo ctKo), slKo⟩)
    (cKo : PySem.W.codeIn K cdKo "key_of" = true)
    (kKo : PySem.W.keepIn K (.ref fKo) = true)
    (aHw : PySem.W.nsIn K mainGlobals "holder_way" = some (some (.ref fHw)))
    (lHw : K.lookup fHw = some ⟨ocHw, odHw, .func (PySem.W.fnOf "holder_way" "holder_way" (defArgs sHolderWay) (defBody sHolderWay) (defScope sHolderWay) .none kVHw dcHw pmHw anHw cdHw ctHw), slHw⟩)
    (cHw : PySem.W.codeIn K cdHw "holder_way" = true)
    (kHw : PySem.W.keepIn K (.ref fHw) = true)
    (aRf : PySem.W.nsIn K mainGlobals "refusal" = some (some (.ref fRf)))
    (lRf : K.lookup fRf = some ⟨ocRf, odRf, .func (PySem.W.fnOf "refusal" "refusal" (defArgs sRefusal) (defBody sRefusal) (defScope sRefusal) .none kVRf dcRf pmRf anRf cdRf ctRf), slRf⟩)
    (cRf : PySem.W.codeIn K cdRf "refusal" = true)
    (kRf : PySem.W.keepIn K (.ref fRf) = true)
    (aWk : PySem.W.nsIn K mainGlobals "with_key" = some (some (.ref fWk)))
    (lWk : K.lookup fWk = some ⟨ocWk, odWk, .func (PySem.W.fnOf "with_key" "with_key" (defArgs sWithKey) (defBody sWithKey) (defScope sWithKey) .none kVWk dcWk pmWk anWk cdWk ctWk), slWk⟩)
    (cWk : PySem.W.codeIn K cdWk "with_key" = true)
    (kWk : PySem.W.keepIn K (.ref fWk) = true)
    (aWo : PySem.W.nsIn K mainGlobals "without_key" = some (some (.ref fWo)))
    (lWo : K.lookup fWo = some ⟨ocWo, odWo, .func (PySem.W.fnOf "without_key" "without_key" (defArgs sWithoutKey) (defBody sWithoutKey) (defScope sWithoutKey) .none kVWo dcWo pmWo anWo cdWo ctWo), slWo⟩)
    (cWo : PySem.W.codeIn K cdWo "without_key" = true)
    (kWo : PySem.W.keepIn K (.ref fWo) = true)
    (aWh : PySem.W.nsIn K mainGlobals "with_holder" = some (some (.ref fWh)))
    (lWh : K.lookup fWh = some ⟨ocWh, odWh, .func (PySem.W.fnOf "with_holder" "with_holder" (defArgs sWithHolder) (defBody sWithHolder) (defScope sWithHolder) .none kVWh dcWh pmWh anWh cdWh ctWh), slWh⟩)
    (cWh : PySem.W.codeIn K cdWh "with_holder" = true)
    (kWh : PySem.W.keepIn K (.ref fWh) = true)
    (aRk : PySem.W.nsIn K mainGlobals "_refuses_key" = some (some (.ref fRk)))
    (lRk : K.lookup fRk = some ⟨ocRk, odRk, .func (PySem.W.fnOf "_refuses_key" "_refuses_key" (defArgs sRefusesKey) (defBody sRefusesKey) (defScope sRefusesKey) .none kVRk dcRk pmRk anRk cdRk ctRk), slRk⟩)
    (cRk : PySem.W.codeIn K cdRk "_refuses_key" = true)
    (kRk : PySem.W.keepIn K (.ref fRk) = true)
    (aKp : PySem.W.nsIn K mainGlobals "_keeps_out" = some (some (.ref fKp)))
    (lKp : K.lookup fKp = some ⟨ocKp, odKp, .func (PySem.W.fnOf "_keeps_out" "_keeps_out" (defArgs sKeepsOut) (defBody sKeepsOut) (defScope sKeepsOut) .none kVKp dcKp pmKp anKp cdKp ctKp), slKp⟩)
    (cKp : PySem.W.codeIn K cdKp "_keeps_out" = true)
    (kKp : PySem.W.keepIn K (.ref fKp) = true)
    (aRr : PySem.W.nsIn K mainGlobals "_refusal_of_registered" = some (some (.ref fRr)))
    (lRr : K.lookup fRr = some ⟨ocRr, odRr, .func (PySem.W.fnOf "_refusal_of_registered" "_refusal_of_registered" (defArgs sRefReg) (defBody sRefReg) (defScope sRefReg) .none kVRr dcRr pmRr anRr cdRr ctRr), slRr⟩)
    (cRr : PySem.W.codeIn K cdRr "_refusal_of_registered" = true)
    (kRr : PySem.W.keepIn K (.ref fRr) = true)
    (aRp : PySem.W.nsIn K mainGlobals "_refusal_of_preempt" = some (some (.ref fRp)))
    (lRp : K.lookup fRp = some ⟨ocRp, odRp, .func (PySem.W.fnOf "_refusal_of_preempt" "_refusal_of_preempt" (defArgs sRefPre) (defBody sRefPre) (defScope sRefPre) .none kVRp dcRp pmRp anRp cdRp ctRp), slRp⟩)
    (cRp : PySem.W.codeIn K cdRp "_refusal_of_preempt" = true)
    (kRp : PySem.W.keepIn K (.ref fRp) = true)
    (aN : PySem.W.nsIn K mainGlobals "_law_next" = some (some (.ref fN)))
    (lN : K.lookup fN = some ⟨ocN, odN, .func (PySem.W.fnOf "_law_next" "_law_next" (defArgs sNext) (defBody sNext) (defScope sNext) .none kVN dcN pmN anN cdN ctN), slN⟩)
    (cN : PySem.W.codeIn K cdN "_law_next" = true)
    (kN : PySem.W.keepIn K (.ref fN) = true)
    (aC : PySem.W.nsIn K mainGlobals "_law_command" = some (some (.ref fC)))
    (lC : K.lookup fC = some ⟨ocC, odC, .func (PySem.W.fnOf "_law_command" "_law_command" (defArgs sCommand) (defBody sCommand) (defScope sCommand) .none kVC dcC pmC anC cdC ctC), slC⟩)
    (cC : PySem.W.codeIn K cdC "_law_command" = true)
    (kC : PySem.W.keepIn K (.ref fC) = true)
    (aLf : PySem.W.nsIn K mainGlobals "_law_fence" = some (some (.ref fLf)))
    (lLf : K.lookup fLf = some ⟨ocLf, odLf, .func (PySem.W.fnOf "_law_fence" "_law_fence" (defArgs sLFence) (defBody sLFence) (defScope sLFence) .none kVLf dcLf pmLf anLf cdLf ctLf), slLf⟩)
    (cLf : PySem.W.codeIn K cdLf "_law_fence" = true)
    (kLf : PySem.W.keepIn K (.ref fLf) = true)
    (aDh : PySem.W.nsIn K mainGlobals "_law_due_hold" = some (some (.ref fDh)))
    (lDh : K.lookup fDh = some ⟨ocDh, odDh, .func (PySem.W.fnOf "_law_due_hold" "_law_due_hold" (defArgs sDueHold) (defBody sDueHold) (defScope sDueHold) .none kVDh dcDh pmDh anDh cdDh ctDh), slDh⟩)
    (cDh : PySem.W.codeIn K cdDh "_law_due_hold" = true)
    (kDh : PySem.W.keepIn K (.ref fDh) = true)
    (aDu : PySem.W.nsIn K mainGlobals "_law_due" = some (some (.ref fDu)))
    (lDu : K.lookup fDu = some ⟨ocDu, odDu, .func (PySem.W.fnOf "_law_due" "_law_due" (defArgs sDue) (defBody sDue) (defScope sDue) .none kVDu dcDu pmDu anDu cdDu ctDu), slDu⟩)
    (cDu : PySem.W.codeIn K cdDu "_law_due" = true)
    (kDu : PySem.W.keepIn K (.ref fDu) = true)
    (aCa : PySem.W.nsIn K mainGlobals "_law_carry" = some (some (.ref fCa)))
    (lCa : K.lookup fCa = some ⟨ocCa, odCa, .func (PySem.W.fnOf "_law_carry" "_law_carry" (defArgs sCarry) (defBody sCarry) (defScope sCarry) .none kVCa dcCa pmCa anCa cdCa ctCa), slCa⟩)
    (cCa : PySem.W.codeIn K cdCa "_law_carry" = true)
    (kCa : PySem.W.keepIn K (.ref fCa) = true)
    (aCg : PySem.W.nsIn K mainGlobals "_law_change" = some (some (.ref fCg)))
    (lCg : K.lookup fCg = some ⟨ocCg, odCg, .func (PySem.W.fnOf "_law_change" "_law_change" (defArgs sChange) (defBody sChange) (defScope sChange) .none kVCg dcCg pmCg anCg cdCg ctCg), slCg⟩)
    (cCg : PySem.W.codeIn K cdCg "_law_change" = true)
    (kCg : PySem.W.keepIn K (.ref fCg) = true)
    (aL : PySem.W.nsIn K mainGlobals "law" = some (some (.ref fL)))
    (lL : K.lookup fL = some ⟨ocL, odL, .func (PySem.W.fnOf "law" "law" (defArgs sLaw) (defBody sLaw) (defScope sLaw) .none kVL dcL pmL anL cdL ctL), slL⟩)
    (cL : PySem.W.codeIn K cdL "law" = true)
    (kL : PySem.W.keepIn K (.ref fL) = true)
    (gREADING : PySem.W.nsIn K mainGlobals "READING" = some (some (.ref aRe)))
    (lRe : K.lookup aRe = some ⟨.type "tuple", dRe, .seq #[.str "read" uRe_0, .str "view" uRe_1] nRe, sRe⟩)
    (gCHANGING : PySem.W.nsIn K mainGlobals "CHANGING" = some (some (.ref aCh)))
    (lCh : K.lookup aCh = some ⟨.type "tuple", dCh, .seq #[.str "write" uCh_0, .str "trim" uCh_1, .str "snap" uCh_2, .str "drop" uCh_3, .str "remove" uCh_4] nCh, sCh⟩)
    (gOF_REGISTERED : PySem.W.nsIn K mainGlobals "OF_REGISTERED" = some (some (.ref aOr)))
    (lOr : K.lookup aOr = some ⟨.type "tuple", dOr, .seq #[.str "leave" uOr_0, .str "reserve" uOr_1, .str "release" uOr_2, .str "preempt" uOr_3] nOr, sOr⟩)
    (gNO_FENCE : PySem.W.nsIn K mainGlobals "NO_FENCE" = some (some (.ref aNf)))
    (lNf : K.lookup aNf = some ⟨.type "tuple", dNf, .seq #[.ref aEe, .none] nNf, sNf⟩)
    (lEe : K.lookup aEe = some ⟨.type "tuple", none, .seq #[] nEe, sEe⟩)
    (z_dict : PySem.W.nsIn K mainGlobals "dict" = some none)
    (z_len : PySem.W.nsIn K mainGlobals "len" = some none)
    (z_abs : PySem.W.nsIn K mainGlobals "abs" = some none)
    (z_int : PySem.W.nsIn K mainGlobals "int" = some none)
    (z_list : PySem.W.nsIn K mainGlobals "list" = some none)
    (z_tuple : PySem.W.nsIn K mainGlobals "tuple" = some none)
    (z_sorted : PySem.W.nsIn K mainGlobals "sorted" = some none)
    (z_range : PySem.W.nsIn K mainGlobals "range" = some none)
    : ∃ fd : FuncData, (∀ (s : Shared) (v : Value), BindsTo s fd ⟨[v], []⟩ [("script", v)]) ∧ ∀ base : Heap, K.In base → base.Ns mainGlobals mg → FnOk l.prog w K mg base CX0 5 fa fd ["script"] (spLaw K) := by
  have e := hfa.symm.trans (PySem.W.mg_of X G aL)
  cases e
  have B : LB mg := ⟨PySem.W.mg_none_of X G z_len, PySem.W.mg_none_of X G z_abs, PySem.W.mg_none_of X G z_int, PySem.W.mg_none_of X G z_list, PySem.W.mg_none_of X G z_tuple, PySem.W.mg_none_of X G z_sorted, PySem.W.mg_none_of X G z_range⟩
  have FXx : FX K mg aRe aCh aOr := ⟨PySem.W.mg_none_of X G z_dict, PySem.W.mg_none_of X G z_len, PySem.W.mg_of X G gREADING, fun H => (.inr ⟨_, _, _, lRe, rfl, rfl, (show (2 : Nat) ≤ sizeLine by decide), (.cons ⟨_, rfl⟩ (.cons ⟨_, rfl⟩ .nil))⟩), PySem.W.mg_of X G gCHANGING, fun H => (.inr ⟨_, _, _, lCh, rfl, rfl, (show (5 : Nat) ≤ sizeLine by decide), (.cons ⟨_, rfl⟩ (.cons ⟨_, rfl⟩ (.cons ⟨_, rfl⟩ (.cons ⟨_, rfl⟩ (.cons ⟨_, rfl⟩ .nil)))))⟩), PySem.W.mg_of X G gOF_REGISTERED, fun H => (.inr ⟨_, _, _, lOr, rfl, rfl, (show (4 : Nat) ≤ sizeLine by decide), (.cons ⟨_, rfl⟩ (.cons ⟨_, rfl⟩ (.cons ⟨_, rfl⟩ (.cons ⟨_, rfl⟩ .nil))))⟩)⟩
  have NFx : NF K mg aNf aEe := ⟨PySem.W.mg_of X G gNO_FENCE, fun H => (.inr ⟨_, _, _, lNf, rfl, rfl, (show (2 : Nat) ≤ sizeLine by decide), (.cons rfl (.cons rfl .nil))⟩), fun H => (.inr ⟨_, _, _, lEe, rfl, rfl, rfl, (show (0 : Nat) ≤ sizeLine by decide), .nil⟩)⟩
  have FKo := fun_mk (st := sKeyOf) lKo cKo kKo
  have FHw := fun_mk (st := sHolderWay) lHw cHw kHw
  have FRf := fun_mk (st := sRefusal) lRf cRf kRf
  have FWk := fun_mk (st := sWithKey) lWk cWk kWk
  have FWo := fun_mk (st := sWithoutKey) lWo cWo kWo
  have FWh := fun_mk (st := sWithHolder) lWh cWh kWh
  have FRk := fun_mk (st := sRefusesKey) lRk cRk kRk
  have FKp := fun_mk (st := sKeepsOut) lKp cKp kKp
  have FRr := fun_mk (st := sRefReg) lRr cRr kRr
  have FRp := fun_mk (st := sRefPre) lRp cRp kRp
  have FN := fun_mk (st := sNext) lN cN kN
  have FC := fun_mk (st := sCommand) lC cC kC
  have FLf := fun_mk (st := sLFence) lLf cLf kLf
  have FDh := fun_mk (st := sDueHold) lDh cDh kDh
  have FDu := fun_mk (st := sDue) lDu cDu kDu
  have FCa := fun_mk (st := sCarry) lCa cCa kCa
  have FCg := fun_mk (st := sChange) lCg cCg kCg
  have FL := fun_mk (st := sLaw) lL cL kL
  have bKo := FKo.binds (ps := ["fence", "host"]) fun _ _ _ _ _ _ us hl => match us, hl with | [_, _], _ => rfl
  have bHw := FHw.binds (ps := ["fence", "host"]) fun _ _ _ _ _ _ us hl => match us, hl with | [_, _], _ => rfl
  have bRf := FRf.binds (ps := ["fence", "host", "key", "command"]) fun _ _ _ _ _ _ us hl => match us, hl with | [_, _, _, _], _ => rfl
  have bWk := FWk.binds (ps := ["fence", "host", "key"]) fun _ _ _ _ _ _ us hl => match us, hl with | [_, _, _], _ => rfl
  have bWo := FWo.binds (ps := ["fence", "host"]) fun _ _ _ _ _ _ us hl => match us, hl with | [_, _], _ => rfl
  have bWh := FWh.binds (ps := ["fence", "reservation"]) fun _ _ _ _ _ _ us hl => match us, hl with | [_, _], _ => rfl
  have bRk := FRk.binds (ps := ["fence", "host", "key", "word"]) fun _ _ _ _ _ _ us hl => match us, hl with | [_, _, _, _], _ => rfl
  have bKp := FKp.binds (ps := ["fence", "host", "word"]) fun _ _ _ _ _ _ us hl => match us, hl with | [_, _, _], _ => rfl
  have bRr := FRr.binds (ps := ["fence", "host", "command"]) fun _ _ _ _ _ _ us hl => match us, hl with | [_, _, _], _ => rfl
  have bRp := FRp.binds (ps := ["fence", "host", "victim"]) fun _ _ _ _ _ _ us hl => match us, hl with | [_, _, _], _ => rfl
  have bN := FN.binds (ps := ["tape", "many"]) fun _ _ _ _ _ _ us hl => match us, hl with | [_, _], _ => rfl
  have bC := FC.binds (ps := ["tape"]) fun _ _ _ _ _ _ us hl => match us, hl with | [_], _ => rfl
  have bLf := FLf.binds (ps := ["keys", "holder"]) fun _ _ _ _ _ _ us hl => match us, hl with | [_, _], _ => rfl
  have bDh := FDh.binds (ps := ["keys", "holder", "host", "command"]) fun _ _ _ _ _ _ us hl => match us, hl with | [_, _, _, _], _ => rfl
  have bDu := FDu.binds (ps := ["keys", "holder", "host", "key", "command"]) fun _ _ _ _ _ _ us hl => match us, hl with | [_, _, _, _, _], _ => rfl
  have bCa := FCa.binds (ps := ["fence", "host", "command", "order"]) fun _ _ _ _ _ _ us hl => match us, hl with | [_, _, _, _], _ => rfl
  have bCg := FCg.binds (ps := ["keys", "holder", "host", "command", "order", "ended"]) fun _ _ _ _ _ _ us hl => match us, hl with | [_, _, _, _, _, _], _ => rfl
  refine ⟨PySem.W.fnOf "law" "law" (defArgs sLaw) (defBody sLaw) (defScope sLaw) .none kVL dcL pmL anL cdL ctL, fun s v => .of_eq rfl, fun base _ _ => ?_⟩
  have dKo := Def.mk (ok_keyOf (P := l.prog) (wrl := w) (base := base) FKo FXx) bKo kKo (PySem.W.mg_of X G aKo)
  have dHw := Def.mk (ok_holderWay (P := l.prog) (wrl := w) (mg := mg) (base := base) FHw) bHw kHw (PySem.W.mg_of X G aHw)
  have dRk := Def.mk (ok_refusesKey FRk FXx dKo) bRk kRk (PySem.W.mg_of X G aRk)
  have dKp := Def.mk (ok_keepsOut (P := l.prog) (wrl := w) (base := base) FKp FXx) bKp kKp (PySem.W.mg_of X G aKp)
  have dRp := Def.mk (ok_refPre FRp dKo) bRp kRp (PySem.W.mg_of X G aRp)
  have dRr := Def.mk (ok_refReg FRr dKo dHw dRp) bRr kRr (PySem.W.mg_of X G aRr)
  have dRf := Def.mk (ok_refusal FRf FXx dRk dKp dRr) bRf kRf (PySem.W.mg_of X G aRf)
  have dWh := Def.mk (ok_withHolder (P := l.prog) (wrl := w) (mg := mg) (base := base) FWh) bWh kWh (PySem.W.mg_of X G aWh)
  have dWo := Def.mk (ok_withoutKey (P := l.prog) (wrl := w) (base := base) FWo B) bWo kWo (PySem.W.mg_of X G aWo)
  have dWk := Def.mk (ok_withKey FWk B dWo) bWk kWk (PySem.W.mg_of X G aWk)
  have dN := Def.mk (ok_next (P := l.prog) (wrl := w) (base := base) FN B) bN kN (PySem.W.mg_of X G aN)
  have dC := Def.mk (ok_command FC dN) bC kC (PySem.W.mg_of X G aC)
  have dLf := Def.mk (ok_lfence (P := l.prog) (wrl := w) (base := base) FLf B) bLf kLf (PySem.W.mg_of X G aLf)
  have dDh := Def.mk (ok_dueHold (P := l.prog) (wrl := w) (mg := mg) (base := base) FDh) bDh kDh (PySem.W.mg_of X G aDh)
  have dDu := Def.mk (ok_due FDu dDh) bDu kDu (PySem.W.mg_of X G aDu)
  have dCa := Def.mk (ok_carry FCa dKo dWk dHw dWh dWo) bCa kCa (PySem.W.mg_of X G aCa)
  have dCg := Def.mk (ok_change (P := l.prog) (wrl := w) (mg := mg) (base := base) FCg) bCg kCg (PySem.W.mg_of X G aCg)
  exact ok_law FL B NFx dN dC dRf dDu dLf dCa dCg
/-- the law row's walk: at most 63 items -/
theorem walk_law {l : PySem.W.OpenLaw} {q : Program} {loose : List Str} {XP : (Str → Option Value) → Heap → Prop} {YP : World → Heap → Prop} {d : DefRec} {K : Params → PySem.W.Frag} (hn : l.most = some 63) (hdf : d.params.defaults = [])
    (hY : ∀ (w : World) (h : Heap), YP w h → (K w.params).In h)
    (F : ∀ (w : World) (mg : Str → Option Value) (fa : Addr) (h : Heap), (K w.params).In h → h.Ns mainGlobals mg → mg d.name = some (.ref fa) →
      ∃ fd : FuncData, (∀ (s : Shared) (u : Value), BindsTo s fd ⟨[u], []⟩ [("script", u)]) ∧ ∀ base : Heap, (K w.params).In base → base.Ns mainGlobals mg → FnOk l.prog w (K w.params) mg base CX0 5 fa fd ["script"] (spLaw (K w.params))) :
    PySem.W.WalkO q loose XP YP l.row.toRowW d [] (fun f vs => PySem.call f vs) :=
  L2.walk_of (n := 63) (k := 5) (x := "script") (CX := fun _ => CX0) (sp := fun w => spLaw (K w.params)) hn (by decide) hdf ⟨rfl, by decide, by decide⟩ hY F (fun _ _ a ns hl _ hS => ⟨a, ns, rfl, hS, hl, fun _ => rfl⟩) fun _ _ _ _ _ z => z
end Sg

set_option Elab.async false
set_option linter.all false
set_option maxRecDepth 100000
set_option maxHeartbeats 8000000
open PySem PySem.W PyProof.Rows
set_option maxRecDepth 100000 in
set_option maxHeartbeats 0 in
theorem PySem.Challenge.cw_spindlegate_k38_fences_after_changes_holds : PySem.Challenge.rw_spindlegate_k38_fences_after_changes.Holds := by
  w_on; o_law; k_head; (case hw => w_witness2)
  k_fill
  refine Sg.walk_law (l := PySem.Challenge.rw_spindlegate_k38_fences_after_changes) rfl rfl (fun w h Y => PySem.W.kIn_of Y) ?F
  case F =>
    intro w mg fa h KX G hmg
    refine' Sg.all_mk KX G hmg ?aKo ?lKo ?cKo ?kKo ?aHw ?lHw ?cHw ?kHw ?aRf ?lRf ?cRf ?kRf ?aWk ?lWk ?cWk ?kWk ?aWo ?lWo ?cWo ?kWo ?aWh ?lWh ?cWh ?kWh ?aRk ?lRk ?cRk ?kRk ?aKp ?lKp ?cKp ?kKp ?aRr ?lRr ?cRr ?kRr ?aRp ?lRp ?cRp ?kRp ?aN ?lN ?cN ?kN ?aC ?lC ?cC ?kC ?aLf ?lLf ?cLf ?kLf ?aDh ?lDh ?cDh ?kDh ?aDu ?lDu ?cDu ?kDu ?aCa ?lCa ?cCa ?kCa ?aCg ?lCg ?cCg ?kCg ?aL ?lL ?cL ?kL ?gREADING ?lRe ?gCHANGING ?lCh ?gOF_REGISTERED ?lOr ?gNO_FENCE ?lNf ?lEe ?z_dict ?z_len ?z_abs ?z_int ?z_list ?z_tuple ?z_sorted ?z_range
    (case aKo => k_is)
    (case lKo => k_is)
    (case cKo => k_is)
    (case kKo => k_is)
    (case aHw => k_is)
    (case lHw => k_is)
    (case cHw => k_is)
    (case kHw => k_is)
    (case aRf => k_is)
    (case lRf => k_is)
    (case cRf => k_is)
    (case kRf => k_is)
    (case aWk => k_is)
    (case lWk => k_is)
    (case cWk => k_is)
    (case kWk => k_is)
    (case aWo => k_is)
    (case lWo => k_is)
    (case cWo => k_is)
    (case kWo => k_is)
    (case aWh => k_is)
    (case lWh => k_is)
    (case cWh => k_is)
    (case kWh => k_is)
    (case aRk => k_is)
    (case lRk => k_is)
    (case cRk => k_is)
    (case kRk => k_is)
    (case aKp => k_is)
    (case lKp => k_is)
    (case cKp => k_is)
    (case kKp => k_is)
    (case aRr => k_is)
    (case lRr => k_is)
    (case cRr => k_is)
    (case kRr => k_is)
    (case aRp => k_is)
    (case lRp => k_is)
    (case cRp => k_is)
    (case kRp => k_is)
    (case aN => k_is)
    (case lN => k_is)
    (case cN => k_is)
    (case kN => k_is)
    (case aC => k_is)
    (case lC => k_is)
    (case cC => k_is)
    (case kC => k_is)
    (case aLf => k_is)
    (case lLf => k_is)
    (case cLf => k_is)
    (case kLf => k_is)
    (case aDh => k_is)
    (case lDh => k_is)
    (case cDh => k_is)
    (case kDh => k_is)
    (case aDu => k_is)
    (case lDu => k_is)
    (case cDu => k_is)
    (case kDu => k_is)
    (case aCa => k_is)
    (case lCa => k_is)
    (case cCa => k_is)
    (case kCa => k_is)
    (case aCg => k_is)
    (case lCg => k_is)
    (case cCg => k_is)
    (case kCg => k_is)
    (case aL => k_is)
    (case lL => k_is)
    (case cL => k_is)
    (case kL => k_is)
    (case gREADING => k_is)
    (case lRe => k_is)
    (case gCHANGING => k_is)
    (case lCh => k_is)
    (case gOF_REGISTERED => k_is)
    (case lOr => k_is)
    (case gNO_FENCE => k_is)
    (case lNf => k_is)
    (case lEe => k_is)
    (case z_dict => k_is)
    (case z_len => k_is)
    (case z_abs => k_is)
    (case z_int => k_is)
    (case z_list => k_is)
    (case z_tuple => k_is)
    (case z_sorted => k_is)
    (case z_range => k_is)

