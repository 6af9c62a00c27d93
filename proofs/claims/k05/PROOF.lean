import PyProof.Rows.All
import Wide.All
import OpenK.AllK
import Wide.FinOn
import HandS.Base
import HandS.Call
import HandS.List
import HandS.Comp
import HandS.Ends
import HandS.Dict
import HandS.Iter
import HandS.Text
import HandS.Words
import HandS.WordsList
import HandS.Steps
import HandS.Evl
import PyProof.RulesMatch
import PyProof.RulesMatchSeq
import PyProof.Rows.MatchSeqLen
import PyProof.Rows.TupIter
import KE.KDictPairs
import PyProof.P3In
import HandS.Deep
import HandS.DictComp
import HandS.Exc
import HandS.TryOnly
import HandS.ExcOwn
import HandS.WordsExc
import HandS.IsInst
import HandS.ExcIs
import HandS.More
import HandS.WrittenGet
import KE.KIndexOf
import HandS.Zip
import HandS.Star
import KE.SortData
import HandS.Walk
import PySem.Challenge.RW_spindlegate_k05_effects
set_option Elab.async false
set_option linter.all false
set_option maxRecDepth 100000
set_option maxHeartbeats 4000000
/-! General lemmas: readings of expressions, small heaps, lists. -/
namespace Sg
open PySem PySem.Spec PyProof.Rows L2
section
variable {σ : L2.St} {H : Hp} {ta tb te : TE} {i j : Int} {K : PySem.W.Frag} {x y z : V}
theorem v0 {g : Int → Int → V} (ha : Val ta σ H (.int i)) (hb : Val tb σ H (.int j)) : Val (tOp (rI0 g) ta tb) σ H (g i j) := val_op ha hb fun _ q => ⟨i, j, rfl, rfl, q⟩
theorem vc {C : Int → Int → Prop} {g : Int → Int → V} (ha : Val ta σ H (.int i)) (hb : Val tb σ H (.int j)) (hc : C i j) : Val (tOp (rI C g) ta tb) σ H (g i j) := val_op ha hb fun _ q => ⟨i, j, rfl, rfl, hc, q⟩
theorem vEq (ha : Val ta σ H x) (hb : Val tb σ H y) (hs : scal x y = true) : Val (tOp rEq ta tb) σ H (.bl (decide (x = y))) := val_op ha hb fun _ q => ⟨hs, q⟩
theorem vNe (ha : Val ta σ H x) (hb : Val tb σ H y) (hs : scal x y = true) : Val (tOp rNe ta tb) σ H (.bl (!decide (x = y))) := val_op ha hb fun _ q => ⟨hs, q⟩
theorem vIx {p : Addr} {xs : List V} {n : Nat} (ha : Val ta σ H (.ref p)) (hb : Val tb σ H (.int (n : Int))) (hp : SqL K H p xs) (hn : xs[n]? = some z) : Val (tOp (rIxL K) ta tb) σ H z :=
  val_op ha hb fun _ q => ⟨p, xs, _, z, rfl, rfl, hp, atI_nat hn, q⟩
theorem vIs {v w : V} (h : Val te σ H v) (e : v = w) : Val te σ H w := e ▸ h
/-- a built-in's call of one argument -/
theorem vCB1 {r : List V → Hp → VK → Prop} (ha : Val ta σ H x) (hr : ∀ Q : VK, Q z H → r [x] H Q) : Val (tCB r (tCons ta tNil)) σ H z := fun Q q => ha _ (hr Q q)
theorem vCB2 {r : List V → Hp → VK → Prop} (ha : Val ta σ H x) (hb : Val tb σ H y) (hr : ∀ Q : VK, Q z H → r [x, y] H Q) : Val (tCB r (tCons ta (tCons tb tNil))) σ H z := fun Q q => ha _ (hb _ (hr Q q))
theorem aTest {b : Bool} (h : Val te σ H (.bl b)) : Ans (tTest te) σ H b := fun Q q => h _ ⟨b, rfl, q⟩
end
theorem map_get {α β : Type} {f : α → β} {l : List α} {i : Nat} {y : β} (h : (l.map f)[i]? = some y) : ∃ z, l[i]? = some z ∧ y = f z := by
  rw [List.getElem?_map] at h
  cases e : l[i]? with
  | none =>
    rw [e] at h
    cases h
  | some z =>
    rw [e] at h
    exact ⟨z, rfl, (Option.some.inj h).symm⟩
theorem get_map {α β : Type} {f : α → β} {l : List α} {i : Nat} {z : α} (h : l[i]? = some z) : (l.map f)[i]? = some (f z) := by rw [List.getElem?_map, h]; rfl
theorem upd_two {H : Hp} {a : Addr} {o u : HO} : upd (upd H a o) a u = upd H a u := upd_upd
theorem same_new {H : Hp} {p : Addr} {o : HO} (h : H p = Option.none) : Same H (upd H p o) := fun b u e => by
  rw [upd_ne (ne_of_none e h)]
  exact e
end Sg

set_option Elab.async false
set_option linter.all false
set_option maxRecDepth 100000
set_option maxHeartbeats 4000000
/-! match: patterns by values, what they bind by the names' places -/
namespace Sg
open PySem PySem.Spec PyProof.Rows L2
def BindOk (X : Cx) (b : Str × Value) (c : Nat × V) : Prop := X.N[c.1]? = some b.1 ∧ Loc X.env.scope b.1 ∧ (X.fn b.1 = true ∨ X.env.scope.names.lookup b.1 = some .local) ∧ RelV c.2 b.2
inductive OB (X : Cx) : Option (List (Str × Value)) → Option (List (Nat × V)) → Prop
  | none : OB X none none
  | some {bs cs} : Paired (BindOk X) bs cs → OB X (some bs) (some cs)
abbrev TPt := V → Hp → (Option (List (Nat × V)) → Prop) → Prop
abbrev TPts := List V → Hp → (Option (List (Nat × V)) → Prop) → Prop
structure PPt (X : Cx) (p : Pattern) (t : TPt) : Prop where
  run : ∀ (pins : List (Addr × Obj)) (s : Shared) (σ : L2.St) (H : Hp) (v : V) (u : Value) (Q : Option (List (Nat × V)) → Prop), Inv X pins σ H s → RelV v u → t v H Q →
    wpAny (model X.prog X.w) X.A (matchPattern p X.env u) (fun r s' => ∃ o, Inv X pins σ H s' ∧ OB X r o ∧ Q o) X.xe s
structure PPts (X : Cx) (ps : List Pattern) (t : TPts) : Prop where
  run : ∀ (pins : List (Addr × Obj)) (s : Shared) (σ : L2.St) (H : Hp) (vs : List V) (us : List Value) (Q : Option (List (Nat × V)) → Prop), Inv X pins σ H s → Vals vs us → t vs H Q →
    wpAny (model X.prog X.w) X.A (matchEach ps X.env us) (fun r s' => ∃ o, Inv X pins σ H s' ∧ OB X r o ∧ Q o) X.xe s
def mWild : TPt := fun _ _ Q => Q (some [])
def mCap (i : Nat) : TPt := fun v _ Q => Q (some [(i, v)])
def mStr (x : Str) : TPt := fun v _ Q => ∃ y, v = .str y ∧ Q (if y = x then some [] else none)
def mNone : TPt := fun v _ Q => Q (if v = .non then some [] else none)
def mBool (b : Bool) : TPt := fun v _ Q => ∃ c, v = .bl c ∧ Q (if c = b then some [] else none)
def mNil : TPts := fun _ _ Q => Q (some [])
def mCons (t : TPt) (u : TPts) : TPts := fun vs H Q => ∃ v r, vs = v :: r ∧ t v H fun o => match o with
  | none => Q none
  | some bs => u r H fun o' => match o' with
    | none => Q none
    | some cs => Q (some (bs ++ cs))
def mSeq (K : PySem.W.Frag) (n : Nat) (t : TPts) : TPt := fun v H Q => ∃ a xs, v = .ref a ∧ SqT K H a xs ∧ (xs.length = n → t xs H Q) ∧ (xs.length ≠ n → Q none)
theorem Paired.app {α β : Type} {F : α → β → Prop} : ∀ {a : List α} {b : List β} {c : List α} {d : List β}, Paired F a b → Paired F c d → Paired F (a ++ c) (b ++ d)
  | _, _, _, _, .nil, q => q
  | _, _, _, _, .cons r t, q => .cons r (Paired.app t q)
section
variable {X : Cx}
theorem mp_wild {pos : Pos} : PPt X (.MatchAs none none pos) mWild := ⟨fun pins s σ H v u Q I r h => wpAny_matchPattern_Capture ⟨_, I, .some .nil, h⟩⟩
theorem mp_cap {i : Nat} {x : Str} {pos : Pos} (hi : X.N[i]? = some x) (hx : Loc X.env.scope x) (hf : X.fn x = true ∨ X.env.scope.names.lookup x = some .local := by first | exact .inl rfl | exact .inr rfl | assumption) : PPt X (.MatchAs none (some x) pos) (mCap i) :=
  ⟨fun pins s σ H v u Q I r h => wpAny_matchPattern_Capture ⟨_, I, .some (.cons ⟨hi, hx, hf, r⟩ .nil), h⟩⟩
theorem mp_str {x : Str} {j : Nat} {p pos : Pos} : PPt X (.MatchValue (.Constant (.str x) j p) pos) (mStr x) := by
  refine ⟨fun pins s σ H v u Q I r h => ?_⟩
  obtain ⟨y, rfl, q⟩ := h
  refine wpAny_matchPattern_Value (thn ((pe_str (X := X)).run pins s σ H (fun v' H' => v' = .str x ∧ H' = H) I ⟨rfl, rfl⟩) fun u2 s2 ⟨v2, H2, I2, r2, e2, e3⟩ => ?_)
  subst e2 e3
  refine thn (op_eq (X := X) pins s2 σ H2 (.str y) (.str x) u u2 (fun v' H' => v' = .bl (decide (V.str y = V.str x)) ∧ H' = H2) I2 r r2 ⟨rfl, rfl, rfl⟩) fun c s3 ⟨v3, H3, I3, r3, e4, e5⟩ => ?_
  subst e4 e5
  cases r3
  refine wpAny_truthy_bool ?_
  by_cases e : y = x
  · subst e
    rw [decide_eq_true rfl]
    rw [if_pos rfl] at q
    exact ⟨_, I3, .some .nil, q⟩
  · rw [decide_eq_false (fun z => e (by cases z; rfl))]
    rw [if_neg e] at q
    exact ⟨_, I3, .none, q⟩
theorem mp_none {pos : Pos} : PPt X (.MatchSingleton .none pos) mNone := by
  refine ⟨fun pins s σ H v u Q I r h => ?_⟩
  rw [arm_matchPattern_MatchSingleton]
  refine wpAny_pure ?_
  cases v with
  | non => cases r; exact ⟨_, I, .some .nil, h⟩
  | bl b => cases r; exact ⟨_, I, .none, h⟩
  | int i => obtain ⟨t, rfl⟩ := r; exact ⟨_, I, .none, h⟩
  | str i => obtain ⟨t, rfl⟩ := r; exact ⟨_, I, .none, h⟩
  | byt i => obtain ⟨t, rfl⟩ := r; exact ⟨_, I, .none, h⟩
  | flt i => obtain ⟨t, rfl⟩ := r; exact ⟨_, I, .none, h⟩
  | ref a => cases r; exact ⟨_, I, .none, h⟩
  | ty n => cases r; exact ⟨_, I, .none, h⟩
theorem mp_bool {b : Bool} {pos : Pos} : PPt X (.MatchSingleton (.bool b) pos) (mBool b) := by
  refine ⟨fun pins s σ H v u Q I r h => ?_⟩
  obtain ⟨c, rfl, q⟩ := h
  cases r
  rw [arm_matchPattern_MatchSingleton]
  refine wpAny_pure ?_
  cases b <;> cases c
  · exact ⟨_, I, .some .nil, q⟩
  · exact ⟨_, I, .none, q⟩
  · exact ⟨_, I, .none, q⟩
  · exact ⟨_, I, .some .nil, q⟩
theorem mps_nil : PPts X [] mNil := ⟨fun pins s σ H vs us Q I r h => wpAny_matchEach_nil ⟨_, I, .some .nil, h⟩⟩
theorem mps_cons {p : Pattern} {ps : List Pattern} {t : TPt} {u : TPts} (h1 : PPt X p t) (h2 : PPts X ps u) (hp : p.isStar = false := by rfl) : PPts X (p :: ps) (mCons t u) := by
  refine ⟨fun pins s σ H vs us Q I r h => ?_⟩
  obtain ⟨v, vr, rfl, h⟩ := h
  cases r with
  | cons r0 rr =>
    refine wpAny_matchEach_cons (thn (h1.run pins s σ H v _ _ I r0 h) fun r1 s1 ⟨o, I1, ob, q⟩ => ?_) hp
    cases ob with
    | none => exact ⟨_, I1, .none, q⟩
    | some pr =>
      refine thn (h2.run pins s1 σ H vr _ _ I1 rr q) fun r2 s2 ⟨o2, I2, ob2, q2⟩ => ?_
      cases ob2 with
      | none => exact ⟨_, I2, .none, q2⟩
      | some pr2 => exact ⟨_, I2, .some (Paired.app pr pr2), q2⟩
theorem mp_seq {ps : List Pattern} {pos : Pos} {t : TPts} {n : Nat} (hc : X.calm = true) (hs : PPts X ps t) (hn : ps.length = n := by rfl) (hstar : ps.findIdx? (·.isStar) = none := by rfl)
    (hwild : (ps.all fun p => p.isWildcard || (p.isStar && p.names.isEmpty)) = false := by rfl) : PPt X (.MatchSequence ps pos) (mSeq X.K n t) := by
  refine ⟨fun pins s σ H v u Q I r h => ?_⟩
  obtain ⟨a, xs, rfl, hq, h1, h2⟩ := h
  cases r
  obtain ⟨its, rv, ht, hz⟩ := I.tuple hq
  have hl : its.toArray.size = xs.length := by rw [List.size_toArray]; exact rv.length.symm
  have h63 := line63
  by_cases e : xs.length = n
  · refine matchSeq_tuple_hit ht (by rw [hl]; omega) (by rw [hl, hn]; exact e) ?_ hstar hwild
    rw [show ps.length = its.toArray.size by rw [hl, hn, e]]
    have I1 : Inv X pins σ H { s with toks := s.toks + 1 + 1 } := I.tok _
    refine unpackItems_tuple (I.ok.hd hc) ht fun h' hx => ?_
    have I2 : Inv X pins σ H { s with heap := h', toks := s.toks + 1 + 1 } := I.kept (t' := s.toks + 1 + 1) fun b o e => hx b o (Nat.ne_of_lt (Heap.lt_size e)) e
    exact hs.run pins _ σ H xs _ Q I2 rv (h1 e)
  · exact matchSeq_tuple_miss ht (by rw [hl]; omega) (by rw [hl, hn]; exact e) ⟨_, I.tok _, .none, h2 e⟩ hstar hwild
/-! ### the cases -/
abbrev TCs := V → TS
structure PCs (X : Cx) (cs : List MatchCase) (t : TCs) : Prop where
  run : ∀ (pins : List (Addr × Obj)) (s : Shared) (σ : L2.St) (H : Hp) (D : Ends) (v : V) (u : Value) (first : Bool), Inv X pins σ H s → RelV v u → t v D σ H →
    wpAny (model X.prog X.w) X.A (matchCases cs X.env u first) (SP X pins D) X.xe s
def setAll (σ : L2.St) (bs : List (Nat × V)) : L2.St := bs.foldl (fun s b => s.set b.1 (some b.2)) σ
def cNil : TCs := fun _ D σ H => D.nx σ H
def cCons (tp : TPt) (tb : TS) (rest : TCs) : TCs := fun v D σ H => tp v H fun o => match o with
  | none => rest v D σ H
  | some bs => tb D (setAll σ bs) H
theorem pcs_nil : PCs X [] cNil := ⟨fun pins s σ H D v u f I r h => wpAny_matchCases_nil ⟨σ, H, I, h⟩⟩
theorem bind_all (hN : X.N.Nodup) {pins : List (Addr × Obj)} {H : Hp} : ∀ {bs : List (Str × Value)} {cs : List (Nat × V)}, Paired (BindOk X) bs cs → ∀ {σ : L2.St} {s : Shared} {Q : Unit → Shared → Prop}, Inv X pins σ H s →
    (∀ s', Inv X pins (setAll σ cs) H s' → Q () s') → wpAny (model X.prog X.w) X.A (assignInOrder (bs.map fun (n, _) => bindName X.env n) (bs.map (·.2))) Q X.xe s
  | _, _, .nil, σ, s, Q, I, h => wpAny_assignInOrder_none (h s I)
  | _, _, .cons (a := b) (b := c) r t, σ, s, Q, I, h => by
    obtain ⟨x, u⟩ := b
    obtain ⟨i, v⟩ := c
    obtain ⟨h1, h2, h3, h4⟩ := r
    refine wpAny_assignInOrder_more (wpAny_bindName (store_ok I hN h1 h2 h4 (fun s' I' => ?_) h3))
    exact bind_all hN t I' h
theorem pcs_cons {p : Pattern} {body : List Stmt} {rest : List MatchCase} {tp : TPt} {tb : TS} {tr : TCs} (hN : X.N.Nodup) (hp : PPt X p tp) (hb : PSs X body tb) (hr : PCs X rest tr) : PCs X (⟨p, none, body⟩ :: rest) (cCons tp tb tr) := by
  refine ⟨fun pins s σ H D v u f I r h => ?_⟩
  refine wpAny_matchCases_cons (thn (hp.run pins s σ H v u _ I r h) fun o s1 ⟨c, I1, ob, q⟩ => ?_)
  cases ob with
  | none => exact hr.run pins s1 σ H D v u false I1 r q
  | some pr => exact bind_all hN pr I1 fun s' I' => hb.run pins s' _ H D I' q
def tMatch (te : TE) (tc : TCs) : TS := fun D σ H => te σ H fun v H1 => tc v D σ H1
theorem ps_match {e : Expr} {cs : List MatchCase} {pos : Pos} {te : TE} {tc : TCs} (he : PE X e te) (hc : PCs X cs tc) : PS X (.Match e cs pos) (tMatch te tc) := by
  refine ⟨fun pins s σ H D I h => ?_⟩
  exact wpAny_Match (thn (he.run pins s σ H _ I h) fun u s1 ⟨v, H1, I1, r1, q1⟩ => hc.run pins s1 σ H1 D v u true I1 r1 q1)
end
end Sg

set_option Elab.async false
set_option linter.all false
set_option maxRecDepth 100000
set_option maxHeartbeats 4000000
/-! tuples without a dict of their own; dict(t) of such; x in t of data; d != {} -/
namespace Sg
open PySem PySem.Spec PyProof.Rows L2
def SqP (K : PySem.W.Frag) (H : Hp) (a : Addr) (xs : List V) : Prop :=
  (∃ o : Obj, H a = some (.frz o (.tup xs)) ∧ o.dict = none) ∨
    ∃ (o : Obj) (its : Array Value) (n : Nat), K.lookup a = some o ∧ o.cls = .type "tuple" ∧ o.dict = none ∧ o.data = .seq its n ∧ its.size ≤ sizeLine ∧ Vals xs its.toList
theorem SqP.t {K : PySem.W.Frag} {H : Hp} {a : Addr} {xs : List V} (h : SqP K H a xs) : SqT K H a xs := by
  rcases h with ⟨o, h, _⟩ | ⟨o, its, n, h1, h2, _, h3, h4, h5⟩
  · exact .inl (.inr ⟨o, h⟩)
  · exact .inr ⟨o, its, n, h1, h2, h3, h4, h5⟩
theorem SqP.plain {X : Cx} {pins : List (Addr × Obj)} {σ : L2.St} {H : Hp} {s : Shared} {a : Addr} {xs : List V} (I : Inv X pins σ H s) (h : SqP X.K H a xs) : ∃ its : List Value, Vals xs its ∧ PlainSeq "tuple" s.heap a its.toArray ∧ xs.length ≤ sizeLine := by
  rcases h with ⟨o, h, hd⟩ | ⟨o, its, n, h1, h2, hd, h3, h4, h5⟩
  · obtain ⟨e, z, its, r, o', e', hc, n, hdat⟩ := I.hok a _ h
    rw [e] at e'; cases e'
    exact ⟨its, r, ⟨o, n, e, hc, hd, hdat⟩, z⟩
  · refine ⟨its.toList, h5, ⟨o, n, I.kIn a o h1, h2, hd, by simpa using h3⟩, ?_⟩
    have e := h5.length
    simp only [Array.length_toList] at e
    omega
section
variable {X : Cx}
theorem pairs_of2 {pins : List (Addr × Obj)} {σ : L2.St} {H : Hp} {s : Shared} (I : Inv X pins σ H s) : ∀ {ps : List Addr} {kvs : List (Key × V)}, Paired (fun p kv => SqT X.K H p [kV kv.1, kv.2]) ps kvs →
    ∃ (prs : List (Key × Value)) (us : List (Value × Value)), KV kvs prs ∧ prs.length = ps.length ∧ us.length = ps.length ∧ ∀ (j : Nat) (k v : Value), us[j]? = some (k, v) → (∃ b : Addr, ps[j]? = some b ∧ IsTup s.heap b #[k, v]) ∧ ∃ key, prs[j]? = some (key, v) ∧ keyIs key k = true
  | _, _, .nil => ⟨[], [], .nil, rfl, rfl, fun j k v e => by simp at e⟩
  | _, _, .cons (a := p) (b := kv) h t => by
    obtain ⟨prs, us, r, hl, hl2, hp⟩ := pairs_of2 I t
    obtain ⟨its, rv, ht, _⟩ := I.tuple h
    obtain ⟨u, y, ei, ru, ry⟩ := vals2 rv
    subst ei
    refine ⟨(kv.1, y) :: prs, (u, y) :: us, .cons ⟨rfl, ry⟩ r, by rw [List.length_cons, List.length_cons, hl], by rw [List.length_cons, List.length_cons, hl2], fun j k v e => ?_⟩
    cases j with
    | zero =>
      have e' : (u, y) = (k, v) := Option.some.inj e
      cases e'
      exact ⟨⟨p, rfl, ht⟩, kv.1, rfl, kV_is (P := X.prog) (w := X.w) ru⟩
    | succ j =>
      obtain ⟨⟨b, e1, e2⟩, key, e3, e4⟩ := hp j k v (by simpa using e)
      exact ⟨⟨b, by simpa using e1, e2⟩, key, by simpa using e3, e4⟩
def rDictT (K : PySem.W.Frag) : List V → Hp → VK → Prop := fun xs H Q => ∃ (a : Addr) (ps : List Addr) (kvs : List (Key × V)), xs = [.ref a] ∧ SqP K H a (ps.map V.ref) ∧ Paired (fun p kv => SqT K H p [kV kv.1, kv.2]) ps kvs ∧
    ∀ p, H p = none → Q (.ref p) (upd H p (.dK (mergeK [] kvs)))
/-- dict(t) of a tuple of pairs -/
theorem call_dictT (hcalm : X.calm = true) : CallR X (.type "dict") (rDictT X.K) := by
  intro pins s σ H xs us Q I r q
  obtain ⟨a, ps, kvs, ex, hq, hp, q⟩ := q
  subst ex
  obtain ⟨u, eu, rx⟩ := vals1 r
  subst eu
  cases rx
  obtain ⟨its, rv, pl, hz⟩ := hq.plain I
  have ei := refs_at rv
  subst ei
  rw [List.length_map] at hz
  obtain ⟨prs, us2, rel, hl, hl2, hpr⟩ := pairs_of2 I hp
  have hh := I.ok.hd hcalm
  refine PySem.call_dict_pairs (knd := mixKind X.prog X.w) (kvs := prs) (PairArg.tuple a (ps.map Value.ref).toArray (fun j => ps.getD j 0) us2) hh ⟨pl, ?_, fun j k v e => ?_⟩ ⟨?_, fun j k v e => ?_⟩ ?_ fun h' tk hd' k => ?_
  · simp [hl2]
  · obtain ⟨⟨b, e1, e2⟩, _⟩ := hpr j k v e
    have e3 : ps.getD j 0 = b := by rw [List.getD_eq_getElem?_getD, e1]; rfl
    show _ = some (Value.ref (ps.getD j 0)) ∧ PairAt s.heap (ps.getD j 0) k v
    rw [e3]
    refine ⟨by simp [e1], .inl e2⟩
  · rw [hl, hl2]
  · obtain ⟨_, key, e3, e4⟩ := hpr j k v e
    exact ⟨key, e3, e4⟩
  · rw [hl2]; exact hz
  · have hm : (s.heap.objs.size == sysModules) = false := beq_eq_false_iff_ne.mpr (Nat.ne_of_gt I.big)
    have hlen : (mergeK [] kvs).length ≤ sizeLine := by
      refine Nat.le_trans (length_mergeK kvs []) ?_
      rw [List.length_nil, Nat.zero_add, rel.length, hl]
      exact hz
    exact ⟨.ref s.heap.objs.size, upd H s.heap.objs.size (.dK (mergeK [] kvs)), I.laid (t' := tk) (fun b o e => k b o (by simp) e) (Nat.le_refl _) (show ObjOk X.prog X.w _ _ _ (.dK (mergeK [] kvs)) from ⟨hlen, hm, merged [] prs, KV.merge rel .nil, hd'⟩), rfl, q _ (I.hok.fresh (Nat.le_refl _))⟩
/-- tuple(l) of a list: a new tuple without a dict of its own -/
def rTupP (K : PySem.W.Frag) : List V → Hp → VK → Prop := fun xs H Q => ∃ p ys, xs = [.ref p] ∧ SqL K H p ys ∧ ∀ (l : Addr) (o : Obj), H l = none → o.dict = none → Q (.ref l) (upd H l (.frz o (.tup ys)))
theorem call_tupP : CallR X (.type "tuple") (rTupP X.K) := by
  intro pins s σ H xs us Q I r h
  obtain ⟨p, ys, rfl, hq, q⟩ := h
  obtain ⟨u, rfl, rx⟩ := vals1 r
  cases rx
  obtain ⟨its, r', pl, hz⟩ := I.list hq
  have hlen := r'.length
  refine call_tuple_list pl.isList (fun h' kp => ?_) (by simp only [List.size_toArray] <;> omega)
  have I1 : Inv X pins σ H { s with heap := h' } := I.kept (t' := s.toks) kp
  have hget : (h'.push { cls := .type "tuple", data := .seq its.toArray }).get? h'.objs.size = some { cls := .type "tuple", data := .seq its.toArray } := Heap.get?_push_size _ rfl
  have I2 : Inv X pins σ (upd H h'.objs.size (.frz { cls := .type "tuple", data := .seq its.toArray } (.tup ys))) { s with heap := h'.push { cls := .type "tuple", data := .seq its.toArray } } :=
    I1.laid (t' := s.toks) (fun b o e => Heap.get?_push_of_some _ e) (Nat.le_refl _) (show ObjOk X.prog X.w _ _ _ (.frz { cls := .type "tuple", data := .seq its.toArray } (.tup ys)) from ⟨hget, hz, its, r', IsTup.new _ _⟩)
  exact ⟨.ref h'.objs.size, _, I2, rfl, q _ _ (I1.hok.fresh (Nat.le_refl _)) rfl⟩
/-- x in t, data of any depth -/
def rInT (K : PySem.W.Frag) : R2 := fun x y H Q => ∃ d ds, Dp K H x d ∧ Dp K H y (.tuple ds) ∧ SeqAt.shaped d = true ∧ SeqAt.shaped (.tuple ds) = true ∧ Q (.bl (ds.any fun z => PyData.eqv z d)) H
theorem op_inT (hu : X.A.units + 65 < cLine) : OpR X (compareOp .In) (rInT X.K) := by
  intro pins s σ H x y v u Q I rx ry h
  obtain ⟨d, ds, hd, he, sd, se, q⟩ := h
  obtain ⟨as, r1⟩ := Dp.reads I d x v hd rx
  obtain ⟨bs, r2⟩ := Dp.reads I (.tuple ds) y u he ry
  exact SeqAt.in_tuple_reads r2 r1 (SeqAt.canLay_of_shaped se) (SeqAt.canLay_of_shaped sd) (room_in_shaped sd hu) ⟨.bl _, H, I, rfl, q⟩
/-- d != {} -/
def rNeE : R2 := fun x y H Q => ∃ a b ks, x = .ref a ∧ y = .ref b ∧ H a = some (.dK ks) ∧ H b = some (.dK []) ∧ Q (.bl (!ks.isEmpty)) H
theorem op_neE (hu : X.A.units < cLine) : OpR X (compareOp .NotEq) rNeE := by
  intro pins s σ H x y v u Q I rx ry h
  obtain ⟨a, b, ks, rfl, rfl, ea, eb, q⟩ := h
  obtain rfl : v = Value.ref a := rx
  obtain rfl : u = Value.ref b := ry
  obtain ⟨_, ya, va, ra, da⟩ := (show ObjOk X.prog X.w H s.heap a (.dK ks) from I.hok a _ ea)
  obtain ⟨_, yb, vb, rb, db⟩ := (show ObjOk X.prog X.w H s.heap b (.dK []) from I.hok b _ eb)
  cases rb
  cases ra with
  | nil => exact PySem.W.keq_ne (knd := mixKind X.prog X.w) (r := true) ya yb da db hu (fun _ => hits_all (ks := []) (kvs := []) .nil .nil (fun p hp => nomatch hp)) (fin_bl I q (by simp))
  | cons h t => exact PySem.W.keq_ne (knd := mixKind X.prog X.w) (r := true) ya yb da db hu (fun e => by simp at e) (fin_bl I q (by simp))
end
end Sg

set_option Elab.async false
set_option linter.all false
set_option maxRecDepth 100000
set_option maxHeartbeats 4000000
namespace Sg
open PySem PySem.Spec PyProof.Rows L2
/-! ### rules of our own -/
section
variable {X : Cx}
/-- C(), an own exception without an __init__ of its own -/
theorem pmk_own0 {C : Addr} {bmB : List Value} {B newId initId : String} {x : Str} {p pos : Pos} (F : ExcBaseFacts B newId initId bmB) (q : PySem.W.excIn X.K C bmB newId = true) (gC : X.mg x = some (.ref C))
    (kC : PySem.W.keepIn X.K (.ref C) = true) (r : Raises X (.ref C)) (hg : Gl X x) (hdb : (x == ("__debug__" : Str)) = false := by decide) :
    PMk X (.Call (.Name x p) [] [] pos) (fun _ H Q => Q (.ref C) none H) := by
  intro pins s σ H Q I h
  refine wpAny_Call_Name_kw (ld_glob I hg gC ?_ hdb)
  refine PySem.W.callWith_K0 I.kIn kC ?_
  obtain ⟨bm, N, nm, qn, bs, hdct, sn, sub, ab, col, dd, k0, k1, k2, k3, k5, mN, hC, hN, hni, T⟩ := exc_obj I.kIn q
  exact wpAny_call_exc_subT F T hC hN hni (fun h' e hm => mk_of I hm r h (I.hok.gone hm.new)) (Nat.zero_le _)
/-- o[i] of a list, by values, a place in bounds from the left -/
def rGetL (K : PySem.W.Frag) : V → V → Hp → VK → Prop := fun o i H Q => ∃ p xs n v, o = .ref p ∧ i = .int ((n : Nat) : Int) ∧ SqL K H p xs ∧ xs[n]? = some v ∧ Q v H
theorem get_list : PGet X (rGetL X.K) := by
  intro pins s σ H o i ov iv Q I ro ri h
  obtain ⟨p, xs, n, v, rfl, rfl, hq, he, q⟩ := h
  cases ro
  obtain ⟨t, rfl⟩ := ri
  obtain ⟨its, r, pl, hz⟩ := I.list hq
  obtain ⟨w, ew, rw'⟩ := r.get he
  have hl := r.length
  have hn := line63
  have hb := (List.getElem?_eq_some_iff.mp he).1
  exact wpAny_getItem_list pl.isList (by omega) (by omega) (by simpa using ew) ⟨v, H, I, rw', q⟩
/-- l.count(y): how many are equal, data of any depth -/
def rCountD (K : PySem.W.Frag) : V → List V → Hp → VK → Prop := fun x xs H Q => ∃ (a : Addr) (y : V) (d : PyData) (ds : List PyData), x = V.ref a ∧ xs = [y] ∧ Dp K H (V.ref a) (.list ds) ∧ Dp K H y d ∧
  SeqAt.shaped (.list ds) = true ∧ SeqAt.shaped d = true ∧ Q (.int (ds.countP (fun z => PyData.eqv z d) : Nat)) H
theorem mt_countD (hu : X.A.units + 65 < cLine) : MtR X "list.count" (rCountD X.K) := by
  intro pins s σ H x xs v us Q I rx rxs h
  obtain ⟨a, y, d, ds, rfl, rfl, hl, hy, sl, sd, q⟩ := h
  cases rx
  cases rxs with
  | cons ry rt =>
    rename_i uy ut
    cases rt
    obtain ⟨bs, r1⟩ := Dp.reads I d y uy hy ry
    have hxs : PyData.canLayAll0 ds = true := SeqAt.canLay_of_shaped sl
    have hroom : X.A.units + 1 + min (PyData.depthAll ds) d.depth < cLine := room_in_shaped sd hu
    cases hl with
    | lst hs ha =>
      obtain ⟨its, rv, ⟨⟨cls, dd, data, sls⟩, n, ho, hc, hdn, hdt⟩, hlen⟩ := I.list hs
      simp only at hc hdt
      subst hc hdt
      obtain ⟨as, h4⟩ := Dp.readsAll I ds _ its ha rv
      have hmap : its.map (SeqAt.readOf s.heap) = ds := SeqAt.readsAll_map ds its as hxs h4
      refine call_meets PySem.F.slot_list_count ⟨_, ho, rfl⟩ PySem.F.entry_list_count (PySem.F.args_list_count_2 _ _)
        (SeqAt.list_countAt a its.toArray n dd sls uy (fun u => PyData.eqv (SeqAt.readOf s.heap u) d)) ⟨ho, SeqAt.items_eqAt (vs := its.toArray) (show ReadsAll s.heap its.toArray.toList ds as from h4) r1 hxs (SeqAt.canLay_of_shaped sd) hroom, ?_⟩
      have ec : its.toArray.toList.countP (fun u => PyData.eqv (SeqAt.readOf s.heap u) d) = ds.countP (fun z => PyData.eqv z d) := by
        rw [← hmap, List.countP_map]
        rfl
      refine ⟨.int (ds.countP (fun z => PyData.eqv z d) : Nat), H, I.tok _, ⟨s.toks, ?_⟩, q⟩
      show Value.int ((its.toArray.toList.countP (fun u => PyData.eqv (SeqAt.readOf s.heap u) d) : Nat) : Int) s.toks = _
      rw [ec]
/-- isinstance(e, c), e the exception that the suite holds, whatever its class is -/
def rIsX (K : PySem.W.Frag) (a : Addr) (cls : Value) (d : Option Addr) : List V → Hp → VK → Prop := fun xs H Q => ∃ (D : Addr) (c : V) (cv : Value) (b : Bool), cls = .ref D ∧ d = none ∧ ExcC K D ∧ xs = [.ref a, c] ∧ (∀ u, RelV c u → u = cv) ∧ PySem.W.kitOne K (.ref D) cv = some b ∧ Q (.bl b) H
theorem call_isX {a : Addr} {oe : Obj} {cls : Value} {d : Option Addr} {pn : List (Addr × Obj)} (hz : Zc cls d oe) (hf : ∃ vs, oe.data = .fields vs) : CallR (X.suite a ((a, oe) :: pn)) (.builtin "isinstance") (rIsX X.K a cls d) := by
  intro pins s σ H xs us Q I r h
  obtain ⟨D, c, cv, b, rfl, rfl, C, rfl, hcv, e, q⟩ := h
  exact call_isE C hz hf pins s σ H _ us Q I r ⟨c, cv, b, rfl, hcv, e, q⟩
end
/-- an exception of a subclass is what the clause names -/
theorem exm_sub {K : PySem.W.Frag} {S T : Addr} (h1 : PySem.W.subIn K (.ref T) (.type "BaseException") = some true) (h2 : PySem.W.isClsIn K T = true) (h3 : PySem.W.typeIn K (.ref T) = some (.type "type")) (h4 : PySem.W.subIn K (.ref S) (.ref T) = some true) :
    PySem.W.exmOne K (.ref S) (.ref T) = some true := by
  have e1 : (PySem.W.subIn K (.ref T) (.type "BaseException") == some true) = true := by rw [h1] <;> rfl
  have e2 : ((PySem.W.clsIn K T).isSome && PySem.W.typeIn K (.ref T) == some (.type "type")) = true := by
    have h2' : (PySem.W.clsIn K T).isSome = true := h2
    rw [h2', h3] <;> rfl
  show (if (PySem.W.subIn K (.ref T) (.type "BaseException") == some true) = true then (if ((PySem.W.clsIn K T).isSome && PySem.W.typeIn K (.ref T) == some (.type "type")) = true then PySem.W.subIn K (.ref S) (.ref T) else none) else none) = some true
  rw [if_pos e1, if_pos e2]
  exact h4
end Sg

set_option Elab.async false
set_option linter.all false
set_option maxRecDepth 100000
namespace Sg
open PySem PySem.Spec PyProof.Rows L2
def top (i : Nat) : Stmt := PySem.Challenge.pw_spindlegate_k05_effects.main.body.getD i (.Pass ⟨0, 0, 0, 0⟩)
abbrev sWhole : Stmt := top 1
abbrev sAtLeast : Stmt := top 2
abbrev sBetween : Stmt := top 3
abbrev sMake : Stmt := top 14
abbrev sIsRec : Stmt := top 15
abbrev sCount : Stmt := top 16
abbrev sFieldsOf : Stmt := top 17
abbrev sAnswerOf : Stmt := top 18
abbrev sEffects : Stmt := top 19
abbrev sEffKind : Stmt := top 20
abbrev sIsKind : Stmt := top 21
abbrev sIsCounter : Stmt := top 22
abbrev sIsField : Stmt := top 23
abbrev sIsTold : Stmt := top 24
abbrev sTape : Stmt := top 26
abbrev sAt : Stmt := top 27
abbrev sLRecord : Stmt := top 28
abbrev sLAnswer : Stmt := top 29
abbrev sLDue : Stmt := top 30
abbrev sLRemove : Stmt := top 31
abbrev sLApply : Stmt := top 32
abbrev sLaw : Stmt := top 33
end Sg

set_option Elab.async false
set_option linter.all false
set_option maxRecDepth 100000
set_option maxHeartbeats 4000000
namespace Sg
open PySem PySem.Spec PyProof.Rows L2
/-! ### the tape -/
def TapeOk (ts : List Int) : Prop := ∀ t ∈ ts, 0 ≤ t ∧ t < 1000
theorem TapeOk.nil : TapeOk [] := fun t h => by cases h
theorem TapeOk.snoc {ts : List Int} {t : Int} (h : TapeOk ts) (h0 : 0 ≤ t) (h1 : t < 1000) : TapeOk (ts ++ [t]) := fun u hu => by
  rcases List.mem_append.mp hu with a | a
  · exact h u a
  · cases List.mem_singleton.mp a
    exact ⟨h0, h1⟩
theorem TapeOk.at {ts : List Int} (h : TapeOk ts) (k : Nat) : 0 ≤ ts.getD k 0 ∧ ts.getD k 0 < 1000 := by
  rw [List.getD_eq_getElem?_getD]
  cases e : ts[k]? with
  | none => exact ⟨by decide, by decide⟩
  | some t => exact h t (List.mem_of_getElem? e)
/-- what is built-in of the names that the law's helpers use -/
structure Blt (mg : Str → Option Value) : Prop where
  range : mg "range" = none
  len : mg "len" = none
  abs : mg "abs" = none
  int : mg "int" = none
def spTape (K : PySem.W.Frag) : Sp := fun vs H Q _ => ∃ (a : Addr) (ns : List Int), vs = [.ref a] ∧ SqL K H a (ns.map V.int) ∧ ns.length ≤ 63 ∧
  ∀ (p : Addr) (ts : List Int), H p = none → TapeOk ts → ts.length ≤ 3780 → Q (.ref p) (upd H p (.lst (ts.map V.int)))
def spAt (K : PySem.W.Frag) : Sp := fun vs H Q _ => ∃ (p : Addr) (ts : List Int) (k : Nat), vs = [.ref p, .int (k : Int)] ∧ SqL K H p (ts.map V.int) ∧ Q (.int (ts.getD k 0)) H
section
variable {P : Program} {w : World} {K : PySem.W.Frag} {mg : Str → Option Value} {base : Heap} {f : Addr} {fd : FuncData}
theorem scTape : FnScope ["script", "tape", "k", "value", "step"] ["script"] (defScope sTape) := ⟨rfl, rfl, rfl, by decide +kernel, rfl, by decide +kernel, by decide +kernel⟩
theorem snocT {H : Hp} {p : Addr} {ts : List Int} {t : Int} : upd (upd H p (.lst (ts.map V.int))) p (.lst (ts.map V.int ++ [V.int t])) = upd H p (.lst ((ts ++ [t]).map V.int)) := by
  rw [upd_upd, List.map_append]; rfl
theorem ok_tape (F : Fun K "_law_tape" "_law_tape" sTape f fd) (B : Blt mg) : FnOk P w K mg base CX0 1 f fd ["script"] (spTape K) := by
  refine F.ok scTape (fun vs H Q E h => ?_) (fun cdv A outer s H vs Q E hr h => ?_)
  · obtain ⟨a, ns, rfl, _⟩ := h
    rfl
  · obtain ⟨a, ns, rfl, hS, hlen, k⟩ := h
    refine ⟨_, pss_cons (ps_set (i := 1) scTape.nd rfl (Or.inl rfl) (pe_lst pa_nil))
      (pss_cons (ps_for PassesOwn.never rfl (pi_range1 (by rfl) B.range (pa_cons (pe_callB call_len_seq (by rfl) B.len PySem.boot_len (pa_cons (pv 0) pa_nil)) pa_nil)) (pg_name (i := 2) scTape.nd rfl (Or.inl rfl))
        (pss_cons (ps_set (i := 3) scTape.nd rfl (Or.inl rfl) (pe_callB call_abs (by rfl) B.abs (by decide +kernel) (pa_cons (pe_callTy call_int1 (by rfl) B.int (by decide +kernel) (pa_cons (pe_ix ix_list (pv 0) (pv 2) (fun _ _ => rfl)) pa_nil)) pa_nil)))
        (pss_one (ps_if (pt_cmpR op_ge (pv 3) (pe_op op_pow pe_int pe_int) (nomark _))
          (pss_one (ps_for PassesOwn.never rfl (pi_range1 (by rfl) B.range (pa_cons pe_int pa_nil)) (pg_name (i := 4) scTape.nd rfl (Or.inl rfl))
            (pss_one (ps_if (pt_cmpR op_gt (pv 3) pe_int (nomark _))
              (pss_cons (ps_expr (pe_bm PySem.F.plainAttrs_list PySem.F.slot_list_append PySem.F.type_list_append mt_append (pv 1) (pa_cons (pe_op op_mod (pv 3) pe_int) pa_nil)))
                (pss_one (ps_set (i := 3) scTape.nd rfl (Or.inl rfl) (pe_op op_fdiv (pv 3) pe_int)))) pss_nil))))
          (pss_one (ps_for PassesOwn.never rfl (pi_range1 (by rfl) B.range (pa_cons pe_int pa_nil)) (pg_name (i := 4) scTape.nd rfl (Or.inl rfl))
            (pss_cons (ps_set (i := 3) scTape.nd rfl (Or.inl rfl) (pe_op op_mod (pe_op op_add (pe_op op_add (pe_op op_mul (pv 3) pe_int) (pe_op op_mul pe_int (pe_op op_add (pv 2) pe_int))) (pe_op op_mul pe_int (pv 4))) pe_int))
            (pss_cons (ps_set (i := 3) scTape.nd rfl (Or.inl rfl) (pe_op op_mod (pe_op op_mul (pv 3) pe_int) pe_int))
            (pss_one (ps_expr (pe_bm PySem.F.plainAttrs_list PySem.F.slot_list_append PySem.F.type_list_append mt_append (pv 1) (pa_cons (pe_op op_mod (pe_op op_fdiv (pv 3) pe_int) pe_int) pa_nil))))))))))))
      (pss_one (ps_ret (pv 1)))), ?_⟩
    refine ⟨by show 0 ≤ sizeLine; decide, fun p hp => ?_⟩
    have s0 : ∀ o, Same H (upd H p o) := fun o => same_new hp
    refine ⟨_, rfl, a, _, rfl, .inl ((s0 _).seq hS), _, rfl, ?_, ?_, ?_⟩
    · rw [List.length_map]; omega
    · rw [List.length_map]; omega
    refine for_range (lo := 0) (fun i σ H' => ∃ (ts : List Int) (v2 v3 v4 : Option V), σ = [some (.ref a), some (.ref p), v2, v3, v4] ∧ H' = upd H p (.lst (ts.map V.int)) ∧ TapeOk ts ∧ ts.length ≤ 60 * i)
      ⟨[], none, none, none, rfl, rfl, TapeOk.nil, by simp⟩ ?_ ?_
    · rintro i σ H' hi ⟨ts, v2, v3, v4, rfl, rfl, ht, hl⟩
      have hi' : i < ns.length := by rw [List.length_map] at hi; omega
      -- value = abs(int(script[k]))
      refine ⟨_, rfl, _, rfl, a, _, _, V.int ns[i], rfl, rfl, (s0 _).seq hS, ?_, .inl ⟨_, rfl, _, rfl, ?_⟩⟩
      · rw [Int.zero_add]
        exact atI_nat (get_map (List.getElem?_eq_getElem hi'))
      have hv : 0 ≤ (if ns[i] < 0 then -ns[i] else ns[i]) := by split <;> omega
      generalize (if ns[i] < 0 then -ns[i] else ns[i]) = v at hv
      -- value >= 10 ** 18
      refine ⟨_, rfl, _, _, rfl, rfl, ⟨by decide, by decide, by decide⟩, _, _, rfl, rfl, _, rfl, ?_⟩
      refine ite2 (fun hc => ?_) (fun hc => ?_)
      · refine ⟨60, rfl, by decide, by decide, ?_⟩
        refine for_range (lo := 0) (n := 60) (fun j σ H' => ∃ (ts' : List Int) (v : Int) (v4 : Option V), σ = [some (.ref a), some (.ref p), some (.int (0 + (i : Int))), some (.int v), v4] ∧ H' = upd H p (.lst (ts'.map V.int)) ∧ TapeOk ts' ∧ ts'.length ≤ 60 * i + j)
          ⟨ts, v, v4, rfl, rfl, ht, by omega⟩ ?_ ?_
        · rintro j σ H' hj ⟨ts', u, v4', rfl, rfl, ht', hl'⟩
          refine ⟨_, rfl, _, _, rfl, rfl, _, rfl, ?_⟩
          refine ite2 (fun hu => ?_) (fun hu => ?_)
          · refine ⟨_, rfl, .inl ⟨rfl, _, SqL.of upd_same⟩, _, rfl, _, _, rfl, rfl, (by show (0 : Int) < 1000; decide), p, _, _, rfl, rfl, upd_same, ?_, ?_⟩
            · rw [List.length_map]; exact Nat.lt_of_le_of_lt (by omega : ts'.length ≤ 3780) (by decide)
            refine ⟨_, rfl, _, _, rfl, rfl, ⟨by decide, by decide⟩, ?_⟩
            refine ⟨ts' ++ [u % 1000], u / 1000, _, rfl, snocT, ht'.snoc (by omega) (by omega), ?_⟩
            rw [List.length_append]; simp only [List.length_cons, List.length_nil]; omega
          · exact ⟨ts', u, _, rfl, rfl, ht', by omega⟩
        · rintro σ H' ⟨ts', u, v4', rfl, rfl, ht', hl'⟩
          exact ⟨ts', _, _, _, rfl, rfl, ht', by omega⟩
      · have hc' : v < 10 ^ 18 := by
          have := of_decide_eq_false (Bool.eq_false_iff.mpr hc)
          have e : (10 : Int) ^ (18 : Int).toNat = 10 ^ 18 := rfl
          omega
        refine ⟨4, rfl, by decide, by decide, ?_⟩
        refine for_range (lo := 0) (n := 4) (fun j σ H' => ∃ (ts' : List Int) (v : Int) (v4 : Option V), σ = [some (.ref a), some (.ref p), some (.int (0 + (i : Int))), some (.int v), v4] ∧ H' = upd H p (.lst (ts'.map V.int)) ∧ TapeOk ts' ∧ ts'.length ≤ 60 * i + j ∧ 0 ≤ v ∧ v < 10 ^ 18)
          ⟨ts, v, v4, rfl, rfl, ht, by omega, hv, hc'⟩ ?_ ?_
        · rintro j σ H' hj ⟨ts', u, v4', rfl, rfl, ht', hl', hu0, hu1⟩
          refine ⟨_, rfl, _, _, rfl, rfl, .inl ⟨by omega, by omega⟩, _, rfl, _, _, rfl, rfl, _, _, rfl, rfl, .inl ⟨by decide, by decide⟩, _, _, rfl, rfl, _, rfl, _, _, rfl, rfl, .inl ⟨by decide, by decide⟩, _, _, rfl, rfl, _, _, rfl, rfl, (by show (0 : Int) < 2147483647; decide), ?_⟩
          refine ⟨_, rfl, _, _, rfl, rfl, .inl ⟨by omega, by omega⟩, _, _, rfl, rfl, (by show (0 : Int) < 2147483647; decide), ?_⟩
          refine ⟨_, rfl, .inl ⟨rfl, _, SqL.of upd_same⟩, _, rfl, _, _, rfl, rfl, ⟨by decide, by decide⟩, _, _, rfl, rfl, (by show (0 : Int) < 1000; decide), p, _, _, rfl, rfl, upd_same, ?_, ?_⟩
          · rw [List.length_map]; exact Nat.lt_of_le_of_lt (by omega : ts'.length ≤ 3780) (by decide)
          refine ⟨ts' ++ [_], _, _, rfl, snocT, ht'.snoc (by omega) (by omega), ?_, by omega, by omega⟩
          rw [List.length_append]; simp only [List.length_cons, List.length_nil]; omega
        · rintro σ H' ⟨ts', u, v4', rfl, rfl, ht', hl', _, _⟩
          exact ⟨ts', _, _, _, rfl, rfl, ht', by omega⟩
    · rintro σ H' ⟨ts, v2, v3, v4, rfl, rfl, ht, hl⟩
      refine ⟨_, rfl, ?_⟩
      exact k p ts hp ht (by rw [List.length_map] at hl; omega)
theorem scAt : FnScope ["tape", "k"] ["tape", "k"] (defScope sAt) := ⟨rfl, rfl, rfl, by decide +kernel, rfl, by decide +kernel, by decide +kernel⟩
theorem ok_at (F : Fun K "_law_at" "_law_at" sAt f fd) (B : Blt mg) : FnOk P w K mg base CX0 1 f fd ["tape", "k"] (spAt K) := by
  refine F.ok scAt (fun vs H Q E h => ?_) (fun cdv A outer s H vs Q E hr h => ?_)
  · obtain ⟨p, ts, k, rfl, _⟩ := h
    rfl
  · obtain ⟨p, ts, k, rfl, hS, q⟩ := h
    refine ⟨_, pss_cons (ps_if (pt_cmpR op_lt (pv 1) (pe_callB call_len_seq (by rfl) B.len PySem.boot_len (pa_cons (pv 0) pa_nil)) (nomark _)) (pss_one (ps_ret (pe_ix ix_list (pv 0) (pv 1) (fun _ _ => rfl)))) pss_nil)
      (pss_one (ps_ret pe_int)), ?_⟩
    refine ⟨_, rfl, _, rfl, p, _, rfl, .inl hS, _, _, rfl, rfl, _, rfl, ?_⟩
    rw [List.length_map]
    rw [List.getD_eq_getElem?_getD] at q
    refine ite2 (fun hc => ?_) (fun hc => ?_)
    · have h1 : k < ts.length := by
        have := of_decide_eq_true hc
        omega
      rw [List.getElem?_eq_getElem h1] at q
      exact ⟨_, rfl, _, rfl, p, _, _, _, rfl, rfl, hS, atI_nat (get_map (List.getElem?_eq_getElem h1)), q⟩
    · have h1 : ts.length ≤ k := by
        have := of_decide_eq_false (Bool.eq_false_iff.mpr hc)
        omega
      rw [List.getElem?_eq_none h1] at q
      exact q
end
end Sg

set_option Elab.async false
set_option linter.all false
set_option maxRecDepth 100000
set_option maxHeartbeats 4000000
namespace Sg
open PySem PySem.Spec PyProof.Rows L2
/-! ### data -/
def intB : PyData → Bool
  | .int _ => true
  | .bool _ => true
  | _ => false
def boolB : PyData → Bool
  | .bool _ => true
  | _ => false
def strB : PyData → Bool
  | .str _ => true
  | _ => false
def tupB : PyData → Bool
  | .tuple _ => true
  | _ => false
def lstB : PyData → Bool
  | .list _ => true
  | _ => false
def wholeD : PyData → Bool
  | .int _ => true
  | _ => false
def atLeastD (lo : Int) : PyData → Bool
  | .int i => decide (lo ≤ i)
  | _ => false
def betwD (lo hi : Int) : PyData → Bool
  | .int i => decide (lo ≤ i) && decide (i ≤ hi)
  | _ => false
/-- what a value's type is, by its data -/
theorem dp_ty {K : PySem.W.Frag} {H : Hp} {x : V} {d : PyData} (h : Dp K H x d) : ∃ t, TyX K H x t ∧ PySem.W.kitOne K t (.type "int") = some (intB d) ∧ PySem.W.kitOne K t (.type "bool") = some (boolB d) ∧ PySem.W.kitOne K t (.type "str") = some (strB d) ∧
    PySem.W.kitOne K t (.type "tuple") = some (tupB d) ∧ PySem.W.kitOne K t (.type "list") = some (lstB d) := by
  cases h with
  | non => exact ⟨_, .base .non, (show PySem.W.kitOne K (.type "NoneType") (.type "int") = some false from kit_ty (by decide +kernel)), (show PySem.W.kitOne K (.type "NoneType") (.type "bool") = some false from kit_ty (by decide +kernel)), (show PySem.W.kitOne K (.type "NoneType") (.type "str") = some false from kit_ty (by decide +kernel)), (show PySem.W.kitOne K (.type "NoneType") (.type "tuple") = some false from kit_ty (by decide +kernel)), (show PySem.W.kitOne K (.type "NoneType") (.type "list") = some false from kit_ty (by decide +kernel))⟩
  | bl b => exact ⟨_, .base (.bl b), (show PySem.W.kitOne K (.type "bool") (.type "int") = some true from kit_ty (by decide +kernel)), (show PySem.W.kitOne K (.type "bool") (.type "bool") = some true from kit_ty (by decide +kernel)), (show PySem.W.kitOne K (.type "bool") (.type "str") = some false from kit_ty (by decide +kernel)), (show PySem.W.kitOne K (.type "bool") (.type "tuple") = some false from kit_ty (by decide +kernel)), (show PySem.W.kitOne K (.type "bool") (.type "list") = some false from kit_ty (by decide +kernel))⟩
  | int i => exact ⟨_, .base (.int i), (show PySem.W.kitOne K (.type "int") (.type "int") = some true from kit_ty (by decide +kernel)), (show PySem.W.kitOne K (.type "int") (.type "bool") = some false from kit_ty (by decide +kernel)), (show PySem.W.kitOne K (.type "int") (.type "str") = some false from kit_ty (by decide +kernel)), (show PySem.W.kitOne K (.type "int") (.type "tuple") = some false from kit_ty (by decide +kernel)), (show PySem.W.kitOne K (.type "int") (.type "list") = some false from kit_ty (by decide +kernel))⟩
  | str x => exact ⟨_, .base (.str x), (show PySem.W.kitOne K (.type "str") (.type "int") = some false from kit_ty (by decide +kernel)), (show PySem.W.kitOne K (.type "str") (.type "bool") = some false from kit_ty (by decide +kernel)), (show PySem.W.kitOne K (.type "str") (.type "str") = some true from kit_ty (by decide +kernel)), (show PySem.W.kitOne K (.type "str") (.type "tuple") = some false from kit_ty (by decide +kernel)), (show PySem.W.kitOne K (.type "str") (.type "list") = some false from kit_ty (by decide +kernel))⟩
  | lst hs _ =>
    refine ⟨.type "list", ?_, (show PySem.W.kitOne K (.type "list") (.type "int") = some false from kit_ty (by decide +kernel)), (show PySem.W.kitOne K (.type "list") (.type "bool") = some false from kit_ty (by decide +kernel)), (show PySem.W.kitOne K (.type "list") (.type "str") = some false from kit_ty (by decide +kernel)), (show PySem.W.kitOne K (.type "list") (.type "tuple") = some false from kit_ty (by decide +kernel)), (show PySem.W.kitOne K (.type "list") (.type "list") = some true from kit_ty (by decide +kernel))⟩
    rcases hs with (h | ⟨o, h⟩) | ⟨o, its, n, h1, h2, _⟩
    · exact .base (.lst h)
    · exact .base (.frz h)
    · exact .kList h1 h2
  | tup hs _ =>
    refine ⟨.type "tuple", ?_, (show PySem.W.kitOne K (.type "tuple") (.type "int") = some false from kit_ty (by decide +kernel)), (show PySem.W.kitOne K (.type "tuple") (.type "bool") = some false from kit_ty (by decide +kernel)), (show PySem.W.kitOne K (.type "tuple") (.type "str") = some false from kit_ty (by decide +kernel)), (show PySem.W.kitOne K (.type "tuple") (.type "tuple") = some true from kit_ty (by decide +kernel)), (show PySem.W.kitOne K (.type "tuple") (.type "list") = some false from kit_ty (by decide +kernel))⟩
    rcases hs with (h | ⟨o, h⟩) | ⟨o, its, n, h1, h2, _⟩
    · exact .base (.tup h)
    · exact .fTuple h
    · exact .kTuple h1 h2
theorem SqT_same {K : PySem.W.Frag} {H H' : Hp} {a : Addr} {xs : List V} (s : Same H H') (h : SqT K H a xs) : SqT K H' a xs := by
  rcases h with (h | ⟨o, h⟩) | h
  · exact .inl (.inl (s _ _ h))
  · exact .inl (.inr ⟨o, s _ _ h⟩)
  · exact .inr h
mutual
theorem dp_same {K : PySem.W.Frag} {H H' : Hp} (s : Same H H') : ∀ (d : PyData) (x : V), Dp K H x d → Dp K H' x d
  | .none, _, h => by cases h; exact .non
  | .bool _, _, h => by cases h; exact .bl _
  | .int _, _, h => by cases h; exact .int _
  | .str _, _, h => by cases h; exact .str _
  | .list ds, _, h => by
    cases h with
    | lst hs ha => exact .lst (s.seq hs) (dpAll_same s ds _ ha)
  | .tuple ds, _, h => by
    cases h with
    | tup hs ha => exact .tup (SqT_same s hs) (dpAll_same s ds _ ha)
  | .dict _, _, h => by cases h
theorem dpAll_same {K : PySem.W.Frag} {H H' : Hp} (s : Same H H') : ∀ (ds : List PyData) (xs : List V), DpAll K H xs ds → DpAll K H' xs ds
  | [], _, h => by cases h; exact .nil
  | d :: ds, _, h => by
    cases h with
    | cons a b => exact .cons (dp_same s d _ a) (dpAll_same s ds _ b)
end
structure Bds (mg : Str → Option Value) (fW : Addr) : Prop where
  isi : mg "isinstance" = none
  int : mg "int" = none
  bool : mg "bool" = none
  str : mg "str" = none
  tup : mg "tuple" = none
  lst : mg "list" = none
  gW : mg "is_whole" = some (.ref fW)
theorem boot_isi : bootBuiltins "isinstance" = some (.builtin "isinstance") := by decide +kernel
def spWhole (K : PySem.W.Frag) : Sp := fun vs H Q _ => ∃ x d, vs = [x] ∧ Dp K H x d ∧ Q (.bl (wholeD d)) H
def spAtLeast (K : PySem.W.Frag) : Sp := fun vs H Q _ => ∃ x d lo, vs = [x, .int lo] ∧ Dp K H x d ∧ Q (.bl (atLeastD lo d)) H
def spBetween (K : PySem.W.Frag) : Sp := fun vs H Q _ => ∃ x d lo hi, vs = [x, .int lo, .int hi] ∧ Dp K H x d ∧ Q (.bl (betwD lo hi d)) H
theorem whole_eq (d : PyData) : (intB d && !boolB d) = wholeD d := by cases d <;> rfl
theorem not_whole_at {lo : Int} {d : PyData} (h : wholeD d = false) : atLeastD lo d = false := by cases d <;> first | rfl | cases h
theorem not_whole_bt {lo hi : Int} {d : PyData} (h : wholeD d = false) : betwD lo hi d = false := by cases d <;> first | rfl | cases h
theorem whole_int {K : PySem.W.Frag} {H : Hp} {x : V} {d : PyData} (h : Dp K H x d) (w : wholeD d = true) : ∃ i, x = .int i ∧ d = .int i := by
  cases h <;> first | exact ⟨_, rfl, rfl⟩ | cases w
section
variable {P : Program} {wrl : World} {K : PySem.W.Frag} {mg : Str → Option Value} {base : Heap} {f fW : Addr} {fd fdW : FuncData}
theorem scWhole : FnScope ["value"] ["value"] (defScope sWhole) := ⟨rfl, rfl, rfl, by decide +kernel, rfl, by decide +kernel, by decide +kernel⟩
theorem ok_whole (F : Fun K "is_whole" "is_whole" sWhole f fd) (B : Bds mg fW) : FnOk P wrl K mg base CX0 1 f fd ["value"] (spWhole K) := by
  refine F.ok scWhole (fun vs H Q E h => ?_) (fun cdv A outer s H vs Q E hr h => ?_)
  · obtain ⟨x, d, rfl, _⟩ := h
    rfl
  · obtain ⟨x, d, rfl, hd, q⟩ := h
    obtain ⟨t, ty, h1, h2, _⟩ := dp_ty hd
    refine ⟨_, pss_one (ps_ret (pe_and (pe_callB call_isi (by rfl) B.isi boot_isi (pa_cons (pv 0) (pa_cons (pe_bltn (v := .ty "int") (by rfl) B.int boot_int rfl) pa_nil)))
      (pe_one (pe_not (pe_callB call_isi (by rfl) B.isi boot_isi (pa_cons (pv 0) (pa_cons (pe_bltn (v := .ty "bool") (by rfl) B.bool boot_bool rfl) pa_nil))))))), ?_⟩
    rw [← whole_eq] at q
    refine ⟨_, rfl, x, _, t, _, _, rfl, .ty "int", ty, h1, _, rfl, ?_⟩
    cases hb : intB d with
    | true =>
      rw [hb] at q
      exact iteT ⟨_, rfl, x, _, t, _, _, rfl, .ty "bool", ty, h2, _, rfl, q⟩
    | false =>
      rw [hb] at q
      exact iteF q
theorem scAtLeast : FnScope ["value", "low"] ["value", "low"] (defScope sAtLeast) := ⟨rfl, rfl, rfl, by decide +kernel, rfl, by decide +kernel, by decide +kernel⟩
theorem ok_atLeast (F : Fun K "is_at_least" "is_at_least" sAtLeast f fd) (B : Bds mg fW) (FW : Fun K "is_whole" "is_whole" sWhole fW fdW) (bW : Binds K fdW ["value"] []) : FnOk P wrl K mg base CX0 2 f fd ["value", "low"] (spAtLeast K) := by
  have GW : FnOk P wrl K mg base CX0 1 fW fdW ["value"] (spWhole K) := ok_whole FW B
  refine F.ok scAtLeast (fun vs H Q E h => ?_) (fun cdv A outer s H vs Q E hr h => ?_)
  · obtain ⟨x, d, lo, rfl, _⟩ := h
    rfl
  · obtain ⟨x, d, lo, rfl, hd, q⟩ := h
    refine ⟨_, pss_one (ps_ret (pe_and (pe_call GW hr (by rfl) B.gW FW.kp bW .nil pass0 (pa_cons (pv 0) pa_nil)) (pe_one (pe_cmpR op_ge (pv 0) (pv 1) (nomark _))))), ?_⟩
    refine ⟨_, rfl, x, d, rfl, hd, _, rfl, ?_⟩
    cases hw : wholeD d with
    | false =>
      rw [not_whole_at hw] at q
      exact iteF q
    | true =>
      obtain ⟨i, rfl, rfl⟩ := whole_int hd hw
      exact iteT ⟨_, rfl, _, rfl, _, _, rfl, rfl, q⟩
theorem scBetween : FnScope ["value", "low", "high"] ["value", "low", "high"] (defScope sBetween) := ⟨rfl, rfl, rfl, by decide +kernel, rfl, by decide +kernel, by decide +kernel⟩
theorem ok_between (F : Fun K "is_between" "is_between" sBetween f fd) (B : Bds mg fW) (FW : Fun K "is_whole" "is_whole" sWhole fW fdW) (bW : Binds K fdW ["value"] []) : FnOk P wrl K mg base CX0 2 f fd ["value", "low", "high"] (spBetween K) := by
  have GW : FnOk P wrl K mg base CX0 1 fW fdW ["value"] (spWhole K) := ok_whole FW B
  refine F.ok scBetween (fun vs H Q E h => ?_) (fun cdv A outer s H vs Q E hr h => ?_)
  · obtain ⟨x, d, lo, hi, rfl, _⟩ := h
    rfl
  · obtain ⟨x, d, lo, hi, rfl, hd, q⟩ := h
    refine ⟨_, pss_one (ps_ret (pe_and (pe_call GW hr (by rfl) B.gW FW.kp bW .nil pass0 (pa_cons (pv 0) pa_nil)) (pe_one (pe_chain op_le op_le (pv 1) (pv 0) (pv 2))))), ?_⟩
    refine ⟨_, rfl, x, d, rfl, hd, _, rfl, ?_⟩
    cases hw : wholeD d with
    | false =>
      rw [not_whole_bt hw] at q
      exact iteF q
    | true =>
      obtain ⟨i, rfl, rfl⟩ := whole_int hd hw
      refine iteT ⟨_, rfl, _, rfl, _, _, rfl, rfl, _, rfl, ?_⟩
      by_cases c : lo ≤ i
      · rw [show betwD lo hi (.int i) = (decide (lo ≤ i) && decide (i ≤ hi)) from rfl, decide_eq_true c] at q
        rw [if_pos (decide_eq_true c)]
        exact ⟨_, rfl, _, _, rfl, rfl, q⟩
      · rw [show betwD lo hi (.int i) = (decide (lo ≤ i) && decide (i ≤ hi)) from rfl, decide_eq_false c] at q
        rw [if_neg (by rw [decide_eq_false c]; exact Bool.false_ne_true)]
        exact q
end
end Sg

set_option Elab.async false
set_option linter.all false
set_option maxRecDepth 100000
set_option maxHeartbeats 4000000
namespace Sg
open PySem PySem.Spec PyProof.Rows L2
def kindsL : List Str := ["mark", "make", "remove", "write", "trim", "snap", "drop", "register", "leave", "reserve", "release", "preempt"]
def fieldT : List (Str × List Str) := [("mark", ["told"]), ("make", ["namespace", "size"]), ("remove", ["namespace"]), ("write", ["namespace", "place", "value"]), ("trim", ["namespace", "place"]), ("snap", ["namespace"]), ("drop", ["namespace", "snapshot"]),
  ("register", ["namespace"]), ("leave", ["namespace", "held"]), ("reserve", ["namespace", "way"]), ("release", ["namespace"]), ("preempt", ["namespace", "victim", "way or none"])]
def strIn (s : Str) (ns : List Str) : Bool := ns.any fun y => decide (y = s)
theorem inV_str {s : Str} : ∀ {ns : List Str}, inV (.str s) (ns.map V.str) = strIn s ns
  | [] => rfl
  | n :: ns => by
    show (eqV (.str n) (.str s) || inV (.str s) (ns.map V.str)) = (decide (n = s) || strIn s ns)
    rw [inV_str (ns := ns)]
    rfl
theorem flat_strs : ∀ {ns : List Str}, (ns.map V.str).all flatV = true
  | [] => rfl
  | n :: ns => by rw [List.map_cons, List.all_cons, flat_strs (ns := ns)]; rfl
def strInD (ns : List Str) : PyData → Bool
  | .str s => strIn s ns
  | _ => false
def noneB : PyData → Bool
  | .none => true
  | _ => false
def pairB : PyData → Bool
  | .tuple [_, _] => true
  | _ => false
def toldD : PyData → Bool
  | .tuple [s, c, a] => atLeastD 1 s && (atLeastD 0 c && (noneB a || pairB a))
  | _ => false
def counterD (k : Str) (d : PyData) : Bool := if k = "mark" then betwD 0 0 d else atLeastD 1 d
def fieldD (n : Str) (d : PyData) (o : Int) : Bool :=
  if n = "namespace" then betwD 1 8 d else if n = "place" then betwD 0 63 d else if n = "value" then wholeD d else if n = "size" then betwD 1 64 d else if n = "snapshot" then betwD 1 (o - 1) d else if n = "victim" then betwD 0 3 d
  else if n = "held" then boolB d else if n = "told" then (noneB d || toldD d) else if n = "way or none" ∧ noneB d = true then true else strInD ["write", "alone"] d
/-- what the records' module has written -/
structure RX (K : PySem.W.Frag) (w : World) (mg : Str → Option Value) (aK aF : Addr) : Prop where
  gK : mg "KINDS" = some (.ref aK)
  sK : ∀ H, SqT K H aK (kindsL.map V.str)
  oK : ∃ o, K.lookup aK = some o ∧ o.cls = .type "tuple" ∧ o.dict = Option.none
  gF : mg "FIELDS" = some (.ref aF)
  fT : ∀ p ∈ fieldT, ∃ a, KDct K w aF p.1 (.ref a) ∧ ∀ H, SqT K H a (p.2.map V.str)
  gHd : ∃ t, mg "HEAD" = some (.int 5 t)
  gHo : ∃ t, mg "HOSTS" = some (.int 4 t)
  gNs : ∃ t, mg "NAMESPACES" = some (.int 8 t)
  gPl : ∃ t, mg "PLACES" = some (.int 64 t)
/-- a def of the module's own, ready to be called -/
structure Def (P : Program) (wd : World) (K : PySem.W.Frag) (mg : Str → Option Value) (base : Heap) (CX : CXT) (x : Str) (k : Nat) (ps : List Str) (sp : Sp) (f : Addr) (fd : FuncData) : Prop where
  ok : FnOk P wd K mg base CX k f fd ps sp
  bd : Binds K fd ps []
  kp : PySem.W.keepIn K (.ref f) = true
  mg : mg x = some (.ref f)
theorem str_eqT {x : Str} : decide (V.str x = V.str x) = true := decide_eq_true rfl
theorem str_eqF {x y : Str} (h : ¬ x = y) : decide (V.str x = V.str y) = false := decide_eq_false (fun z => h (by cases z; rfl))
def spKindQ (K : PySem.W.Frag) : Sp := fun vs H Q _ => ∃ x d, vs = [x] ∧ Dp K H x d ∧ Q (.bl (strInD kindsL d)) H
def spCounter (K : PySem.W.Frag) : Sp := fun vs H Q _ => ∃ x d k, vs = [x, .str k] ∧ Dp K H x d ∧ Q (.bl (counterD k d)) H
def spTold1 (K : PySem.W.Frag) : Sp := fun vs H Q _ => ∃ x d, vs = [x] ∧ Dp K H x d ∧ Q (.bl (toldD d)) H
section
variable {P : Program} {wrl : World} {K : PySem.W.Frag} {mg : Str → Option Value} {base : Heap} {f fW fA fB fT aK aF : Addr} {fd fdW fdA fdB fdT : FuncData}
theorem scIsKind : FnScope ["value"] ["value"] (defScope sIsKind) := ⟨rfl, rfl, rfl, by decide +kernel, rfl, by decide +kernel, by decide +kernel⟩
theorem ok_isKind (F : Fun K "_is_kind" "_is_kind" sIsKind f fd) (B : Bds mg fW) (R : RX K wrl mg aK aF) : FnOk P wrl K mg base CX0 1 f fd ["value"] (spKindQ K) := by
  refine F.ok scIsKind (fun vs H Q E h => ?_) (fun cdv A outer s H vs Q E hr h => ?_)
  · obtain ⟨x, d, rfl, _⟩ := h
    rfl
  · obtain ⟨x, d, rfl, hd, q⟩ := h
    obtain ⟨t, ty, _, _, h3, _⟩ := dp_ty hd
    refine ⟨_, pss_one (ps_ret (pe_and (pe_callB call_isi (by rfl) B.isi boot_isi (pa_cons (pv 0) (pa_cons (pe_bltn (v := .ty "str") (by rfl) B.str boot_str rfl) pa_nil)))
      (pe_one (pe_cmpR op_in_seq (pv 0) (pe_glob (v := .ref aK) (by rfl) R.gK rfl) (by rfl))))), ?_⟩
    refine ⟨_, rfl, x, _, t, _, _, rfl, .ty "str", ty, h3, _, rfl, ?_⟩
    cases hd with
    | str z =>
      refine iteT ⟨_, rfl, aK, _, rfl, .inr (R.sK H), rfl, flat_strs, ?_⟩
      have e : inV (.str z) (kindsL.map V.str) = strInD kindsL (.str z) := inV_str
      rw [← e] at q
      exact q
    | non => exact iteF q
    | bl b => exact iteF q
    | int i => exact iteF q
    | lst h1 h2 => exact iteF q
    | tup h1 h2 => exact iteF q
theorem scIsCounter : FnScope ["value", "kind"] ["value", "kind"] (defScope sIsCounter) := ⟨rfl, rfl, rfl, by decide +kernel, rfl, by decide +kernel, by decide +kernel⟩
theorem ok_isCounter (F : Fun K "_is_counter" "_is_counter" sIsCounter f fd) (GA : Def P wrl K mg base CX0 "is_at_least" 2 ["value", "low"] (spAtLeast K) fA fdA) (GB : Def P wrl K mg base CX0 "is_between" 2 ["value", "low", "high"] (spBetween K) fB fdB) :
    FnOk P wrl K mg base CX0 3 f fd ["value", "kind"] (spCounter K) := by
  refine F.ok scIsCounter (fun vs H Q E h => ?_) (fun cdv A outer s H vs Q E hr h => ?_)
  · obtain ⟨x, d, k, rfl, _⟩ := h
    rfl
  · obtain ⟨x, d, k, rfl, hd, q⟩ := h
    refine ⟨_, pss_cons (ps_if (pt_cmpR op_eq (pv 1) pe_str (nomark _)) (pss_one (ps_ret (pe_call GB.ok hr (by rfl) GB.mg GB.kp GB.bd .nil pass0 (pa_cons (pv 0) (pa_cons pe_int (pa_cons pe_int pa_nil)))))) pss_nil)
      (pss_one (ps_ret (pe_call GA.ok hr (by rfl) GA.mg GA.kp GA.bd .nil pass0 (pa_cons (pv 0) (pa_cons pe_int pa_nil))))), ?_⟩
    refine ⟨_, rfl, rfl, _, rfl, ?_⟩
    by_cases hk : k = "mark"
    · subst hk
      rw [show counterD "mark" d = betwD 0 0 d from if_pos rfl] at q
      rw [str_eqT]
      exact iteT ⟨_, rfl, x, d, 0, 0, rfl, hd, q⟩
    · rw [show counterD k d = atLeastD 1 d from if_neg hk] at q
      rw [str_eqF hk]
      exact iteF ⟨_, rfl, x, d, 1, rfl, hd, q⟩
theorem scIsTold : FnScope ["value", "session", "counter", "answer"] ["value"] (defScope sIsTold) := ⟨rfl, rfl, rfl, by decide +kernel, rfl, by decide +kernel, by decide +kernel⟩
theorem dpAll_len {K : PySem.W.Frag} {H : Hp} : ∀ {xs : List V} {ds : List PyData}, DpAll K H xs ds → xs.length = ds.length
  | _, _, .nil => rfl
  | _, _, .cons _ b => by rw [List.length_cons, List.length_cons, dpAll_len b]
theorem dpAll_cons {K : PySem.W.Frag} {H : Hp} {xs : List V} {d : PyData} {ds : List PyData} (h : DpAll K H xs (d :: ds)) : ∃ x xs', xs = x :: xs' ∧ Dp K H x d ∧ DpAll K H xs' ds := by
  cases h with
  | cons a b => exact ⟨_, _, rfl, a, b⟩
theorem dpAll_nil {K : PySem.W.Frag} {H : Hp} {xs : List V} (h : DpAll K H xs []) : xs = [] := by cases h; rfl
theorem dpAll_3 {K : PySem.W.Frag} {H : Hp} {xs : List V} {ds : List PyData} (h : DpAll K H xs ds) (h3 : ds.length = 3) : ∃ x1 x2 x3 d1 d2 d3, xs = [x1, x2, x3] ∧ ds = [d1, d2, d3] ∧ Dp K H x1 d1 ∧ Dp K H x2 d2 ∧ Dp K H x3 d3 := by
  match ds, h3 with
  | [d1, d2, d3], _ =>
    obtain ⟨x1, r1, rfl, a1, b1⟩ := dpAll_cons h
    obtain ⟨x2, r2, rfl, a2, b2⟩ := dpAll_cons b1
    obtain ⟨x3, r3, rfl, a3, b3⟩ := dpAll_cons b2
    obtain rfl := dpAll_nil b3
    exact ⟨_, _, _, _, _, _, rfl, rfl, a1, a2, a3⟩
theorem dp_non {K : PySem.W.Frag} {H : Hp} {x : V} {d : PyData} (h : Dp K H x d) : decide (x = .non) = noneB d := by
  cases h <;> first | exact decide_eq_true rfl | exact decide_eq_false (by intro z; cases z)
theorem dp_tup {K : PySem.W.Frag} {H : Hp} {x : V} {d : PyData} (h : Dp K H x d) (t : tupB d = true) : ∃ a xs ds, x = .ref a ∧ d = .tuple ds ∧ SqT K H a xs ∧ DpAll K H xs ds := by
  cases h <;> first | exact ⟨_, _, _, rfl, rfl, ‹_›, ‹_›⟩ | cases t
theorem ok_isTold (F : Fun K "_is_told" "_is_told" sIsTold f fd) (B : Bds mg fW) (hlen : mg "len" = none) (GA : Def P wrl K mg base CX0 "is_at_least" 2 ["value", "low"] (spAtLeast K) fA fdA) :
    FnOk P wrl K mg base CX0 3 f fd ["value"] (spTold1 K) := by
  refine F.ok scIsTold (fun vs H Q E h => ?_) (fun cdv A outer s H vs Q E hr h => ?_)
  · obtain ⟨x, d, rfl, _⟩ := h
    rfl
  · obtain ⟨x, d, rfl, hd, q⟩ := h
    obtain ⟨t, ty, _, _, _, h4, _⟩ := dp_ty hd
    refine ⟨_, pss_cons (ps_if (PW.pt (pw_or (pt_not (pt_val (pe_callB call_isi (by rfl) B.isi boot_isi (pa_cons (pv 0) (pa_cons (pe_bltn (v := .ty "tuple") (by rfl) B.tup boot_tuple rfl) pa_nil))))) (pw_or1 (pt_cmpR op_ne (pe_callB call_len_seq (by rfl) hlen PySem.boot_len (pa_cons (pv 0) pa_nil)) pe_int (nomark _))))) (pss_one (ps_ret pe_bl)) pss_nil)
      (pss_cons (ps_asg (pv 0) (pg_tup (by rfl) (pgs_cons (pg_name (i := 1) scIsTold.nd rfl (Or.inl rfl)) (pgs_cons (pg_name (i := 2) scIsTold.nd rfl (Or.inl rfl)) (pgs_cons (pg_name (i := 3) scIsTold.nd rfl (Or.inl rfl)) L2.pgs_nil)))))
      (pss_cons (ps_if (PW.pt (pw_or (pt_not (pt_val (pe_call GA.ok hr (by rfl) GA.mg GA.kp GA.bd .nil pass0 (pa_cons (pv 1) (pa_cons pe_int pa_nil))))) (pw_or1 (pt_not (pt_val (pe_call GA.ok hr (by rfl) GA.mg GA.kp GA.bd .nil pass0 (pa_cons (pv 2) (pa_cons pe_int pa_nil)))))))) (pss_one (ps_ret pe_bl)) pss_nil)
      (pss_one (ps_ret (pe_or (pe_cmpR op_isN (pv 3) pe_non (nomark _)) (pe_one (pe_and (pe_callB call_isi (by rfl) B.isi boot_isi (pa_cons (pv 3) (pa_cons (pe_bltn (v := .ty "tuple") (by rfl) B.tup boot_tuple rfl) pa_nil))) (pe_one (pe_cmpR op_eq (pe_callB call_len_seq (by rfl) hlen PySem.boot_len (pa_cons (pv 3) pa_nil)) pe_int (nomark _)))))))))), ?_⟩
    refine ⟨_, rfl, x, _, t, _, _, rfl, .ty "tuple", ty, h4, _, rfl, ?_⟩
    cases ht : tupB d with
    | false =>
      have e : toldD d = false := by cases d <;> first | rfl | cases ht
      rw [e] at q
      exact iteT (iteT q)
    | true =>
      refine iteF ?_
      obtain ⟨a, xs, ds, rfl, rfl, hs, ha⟩ := dp_tup hd ht
      refine ⟨_, rfl, a, xs, rfl, .inr hs, rfl, _, rfl, ?_⟩
      have hl := dpAll_len ha
      by_cases h3 : ds.length = 3
      · rw [decide_eq_true (show V.int (xs.length : Int) = V.int 3 by rw [hl, h3]; rfl)]
        refine iteF ?_
        obtain ⟨x1, x2, x3, d1, d2, d3, rfl, rfl, e1, e2, e3⟩ := dpAll_3 ha h3
        refine ⟨_, rfl, a, _, rfl, hs, rfl, _, _, rfl, _, _, rfl, _, _, rfl, rfl, ?_⟩
        have q' : Q (.bl (atLeastD 1 d1 && (atLeastD 0 d2 && (noneB d3 || pairB d3)))) H := q
        refine ⟨_, rfl, x1, d1, 1, rfl, e1, _, rfl, ?_⟩
        cases b1 : atLeastD 1 d1 with
        | false => rw [b1] at q'; exact iteT (iteT q')
        | true =>
          rw [b1] at q'
          refine iteF ⟨_, rfl, x2, d2, 0, rfl, e2, _, rfl, ?_⟩
          cases b2 : atLeastD 0 d2 with
          | false => rw [b2] at q'; exact iteT q'
          | true =>
            rw [b2] at q'
            refine iteF ?_
            have q3 : Q (.bl (noneB d3 || pairB d3)) H := q'
            refine ⟨_, rfl, rfl, _, rfl, ?_⟩
            rw [dp_non e3]
            cases n3 : noneB d3 with
            | true => rw [n3] at q3; exact iteT q3
            | false =>
              rw [n3] at q3
              obtain ⟨t3, ty3, _, _, _, k4, _⟩ := dp_ty e3
              refine iteF ⟨_, rfl, x3, _, t3, _, _, rfl, .ty "tuple", ty3, k4, _, rfl, ?_⟩
              cases ht3 : tupB d3 with
              | false =>
                have e : pairB d3 = false := by cases d3 <;> first | rfl | cases ht3
                rw [e] at q3
                exact iteF q3
              | true =>
                obtain ⟨a3, ys, es, rfl, rfl, hs3, ha3⟩ := dp_tup e3 ht3
                refine iteT ⟨_, rfl, a3, ys, rfl, .inr hs3, rfl, ?_⟩
                have hl3 := dpAll_len ha3
                have e : decide (V.int (ys.length : Int) = V.int 2) = pairB (.tuple es) := by
                  rw [hl3]
                  match es with
                  | [] => exact decide_eq_false (by intro z; injection z with z; cases z)
                  | [_] => exact decide_eq_false (by intro z; injection z with z; cases z)
                  | [_, _] => exact decide_eq_true rfl
                  | _ :: _ :: _ :: r => exact decide_eq_false (by intro z; injection z with z; simp only [List.length_cons] at z; omega)
                rw [e]
                exact q3
      · have e : toldD (.tuple ds) = false := by
          match ds, h3 with
          | [], _ => rfl
          | [_], _ => rfl
          | [_, _], _ => rfl
          | [_, _, _], h => exact absurd rfl h
          | _ :: _ :: _ :: _ :: _, _ => rfl
        rw [e] at q
        rw [decide_eq_false (show ¬ V.int (xs.length : Int) = V.int 3 by rw [hl]; intro z; injection z with z; omega)]
        exact iteT q
end
end Sg

set_option Elab.async false
set_option linter.all false
set_option maxRecDepth 100000
set_option maxHeartbeats 4000000
namespace Sg
open PySem PySem.Spec PyProof.Rows L2 HT
section
variable {prog : Program} {w : World} {A : Around} {E : Value → Shared → Prop} {s : Shared}
/-- t[lo:hi] that takes all of a tuple is the tuple itself -/
theorem tup_all {t sl : Addr} {items : Array Value} {vl vu : Value} {lo hi : Option Int} {Q : Value → Shared → Prop} (ht : IsTup s.heap t items) (hs : s.heap.IsSliceOf sl vl vu .none) (pl : IsPart vl lo) (pu : IsPart vu hi)
    (h1 : sIx items.size 0 lo = 0) (h2 : sIx items.size items.size hi = items.size) (h : Q (.ref t) s) : wpAny (model prog w) A (getItem (.ref t) (.ref sl)) Q E s := by
  obtain ⟨os, hos, hcs, hds⟩ := id hs
  have hTs : s.TypeIs (.ref sl) "slice" := ⟨os, hos, hcs⟩
  unfold getItem
  try with_reducible refine wpAny_holding ?_
  first | refine wpAny_bind (wpAny_pure ?_) | skip
  refine wpAny_bind (wpAny_sequenceKey ht.typeIs (by decide) ?_)
  refine wpAny_bind (wpAny_callSpecial?_slot (name := Str.ofString "__getitem__") ht.typeIs PyProof.Rows.slot_tuple_getitem
    (wpAny_call_entry PyProof.Rows.slot_tuple_getitem ht.typeIs entry_tuple_getitem ?_ (args_tuple_getitem _ _)))
  show wpAny _ _ (Builtin.Tuple.tupleItemsOf (.ref t) >>= _) _ _ s
  refine wpAny_bind (tupleItemsOf_ ht (wpAny_bind (wpAny_typeOf hTs ?_)))
  rw [if_pos (by decide)]
  refine wpAny_bind (sliceApplied_gen hs pl pu ?_)
  rw [h1, h2]
  show wpAny _ _ (if (((0 : Nat) : Int) == 0 && (1 : Int) == 1 && (items.size - 0) == items.size) = true then _ else _) _ _ s
  rw [if_pos (by simp)]
  show wpAny _ _ (Builtin.Tuple.tupleIsExact (.ref t) >>= _) _ _ s
  refine wpAny_bind (m := Builtin.Tuple.tupleIsExact _) ?_
  unfold Builtin.Tuple.tupleIsExact
  refine wpAny_bind (wpAny_typeOf ht.typeIs (wpAny_pure ?_))
  rw [if_pos (by decide)]
  exact wpAny_bind (wpAny_rule (wpAny_pure ⟨_, rfl, wpAny_pure h⟩))
end
section
variable {X : Cx}
/-- t[lo:hi], a part or all of a tuple -/
def rSlA (K : PySem.W.Frag) : V → Option Int → Option Int → Hp → VK → Prop := fun x lo hi H Q => ∃ a xs, x = .ref a ∧ SqT K H a xs ∧ ∀ p H', Same H H' → SqT K H' p (cutV xs lo hi) → Q (.ref p) H'
theorem sl_any : SlR X (rSlA X.K) := by
  intro pins s σ H x v vl vu lo hi sl Q I rx hs pl pu h
  obtain ⟨a, xs, rfl, hx, q⟩ := h
  by_cases hw : sIx xs.length 0 lo = 0 ∧ sIx xs.length xs.length hi = xs.length
  · cases rx
    obtain ⟨its, r, ht, hz⟩ := I.tuple hx
    have hlen : its.toArray.size = xs.length := by rw [List.size_toArray]; exact r.length.symm
    refine ⟨"tuple", _, PyProof.Rows.slot_tuple_getitem.lookup, ht.typeIs, ?_⟩
    refine tup_all ht hs pl pu (by rw [hlen]; exact hw.1) (by rw [hlen]; exact hw.2) ⟨.ref a, H, I, rfl, q a H (Same.refl H) ?_⟩
    have e : cutV xs lo hi = xs := by
      unfold cutV
      rw [hw.1, hw.2]
      simp
    rw [e]
    exact hx
  · exact sl_tup pins s σ H (.ref a) v vl vu lo hi sl Q I rx hs pl pu ⟨a, xs, rfl, hx, hw, fun p hp => q p _ (same_new hp) (SqT.of upd_same)⟩
/-- x is b, x is not b: b True or False -/
def rIsB (neg : Bool) : R2 := fun x y H Q => ∃ b c, y = .bl b ∧ x = .bl c ∧ Q (.bl (if neg then !decide (c = b) else decide (c = b))) H
theorem op_isB : OpR X (compareOp .Is) (rIsB false) := by
  intro pins s σ H x y v u Q I rx ry h
  obtain ⟨b, c, rfl, rfl, q⟩ := h
  cases rx
  cases ry
  have e : (Value.bool c == Value.bool b) = decide (c = b) := by cases b <;> cases c <;> rfl
  exact wpAny_is_plain rfl ⟨.bl (decide (c = b)), H, I, by rw [e]; rfl, q⟩
theorem op_isNotB : OpR X (compareOp .IsNot) (rIsB true) := by
  intro pins s σ H x y v u Q I rx ry h
  obtain ⟨b, c, rfl, rfl, q⟩ := h
  cases rx
  cases ry
  have e : (Value.bool c == Value.bool b) = decide (c = b) := by cases b <;> cases c <;> rfl
  show wpAny _ _ ((isSame (Value.bool c) (Value.bool b)) >>= fun z => pure (Value.bool (!z))) _ _ s
  exact wpAny_bind (wpAny_isSame_plain rfl (wpAny_pure ⟨.bl (!decide (c = b)), H, I, by rw [e]; rfl, q⟩))
/-- t.index(x) of texts -/
def rTIndex (K : PySem.W.Frag) : V → List V → Hp → VK → Prop := fun x xs H Q => ∃ (a : Addr) (ys : List Str) (y : Str), x = V.ref a ∧ xs = [.str y] ∧ SqT K H a (ys.map V.str) ∧ y ∈ ys ∧ Q (.int (ys.idxOf y : Nat)) H
theorem mt_tindex : MtR X "tuple.index" (rTIndex X.K) := by
  intro pins s σ H x xs v us Q I rx rxs h
  obtain ⟨a, ys, y, rfl, rfl, hs, hy, q⟩ := h
  cases rx
  obtain ⟨its, r, ht, hz⟩ := I.tuple hs
  match us, rxs with
  | [u], .cons ru .nil =>
    obtain ⟨t, rfl⟩ := ru
    exact PySem.SeqAt.tuple_index_strs (vs := its) ht (Vals.strs r) hy ⟨.int (ys.idxOf y : Nat), H, I.tok _, ⟨_, rfl⟩, q⟩
end
end Sg

set_option Elab.async false
set_option linter.all false
set_option maxRecDepth 100000
set_option maxHeartbeats 4000000
namespace Sg
open PySem PySem.Spec PyProof.Rows L2
def spField (K : PySem.W.Frag) : Sp := fun vs H Q _ => ∃ n x d o, vs = [.str n, x, .int o] ∧ Dp K H x d ∧ ∀ H', Same H H' → Q (.bl (fieldD n d o)) H'
def spCount : Sp := fun vs H Q _ => ∃ p, p ∈ fieldT ∧ vs = [.str p.1] ∧ Q (.int (p.2.length : Int)) H
def fieldsD (ns : List Str) (ds : List PyData) (o : Int) : Bool := (ns.zip ds).all fun p => fieldD p.1 p.2 o
def recD : PyData → Bool
  | .tuple (.int o :: .str k :: h :: s :: c :: fs) => (match fieldT.lookup k with
    | some ns => decide (fs.length = ns.length) && (decide (1 ≤ o) && betwD 0 3 h && (atLeastD 1 s && counterD k c && fieldsD ns fs o))
    | none => false)
  | _ => false
theorem kind_in {k : Str} (h : strIn k kindsL = true) : ∃ ns, (k, ns) ∈ fieldT ∧ fieldT.lookup k = some ns := by
  unfold strIn at h
  rw [List.any_eq_true] at h
  obtain ⟨y, hy, e⟩ := h
  obtain rfl : y = k := of_decide_eq_true e
  have : ∀ y ∈ kindsL, (fieldT.find? (fun p => p.1 == y)).isSome = true ∧ (fieldT.lookup y).isSome = true := by decide +kernel
  have h2 := (this y hy).2
  cases e2 : fieldT.lookup y with
  | none => rw [e2] at h2; cases h2
  | some ns =>
    exact ⟨ns, PySem.mem_of_lookup e2, rfl⟩
section
variable {P : Program} {wrl : World} {K : PySem.W.Frag} {mg : Str → Option Value} {base : Heap} {f fW fA fB fT fK fC fF C CN CS aK aF : Addr} {fd fdW fdA fdB fdT fdK fdC fdF : FuncData}
theorem scIsField : FnScope ["name", "value", "order"] ["name", "value", "order"] (defScope sIsField) := ⟨rfl, rfl, rfl, by decide +kernel, rfl, by decide +kernel, by decide +kernel⟩
theorem ok_isField (F : Fun K "_is_field" "_is_field" sIsField f fd) (B : Bds mg fW) (R : RX K wrl mg aK aF) (GW : Def P wrl K mg base CX0 "is_whole" 1 ["value"] (spWhole K) fW fdW)
    (GB : Def P wrl K mg base CX0 "is_between" 2 ["value", "low", "high"] (spBetween K) fB fdB) (GT : Def P wrl K mg base CX0 "_is_told" 3 ["value"] (spTold1 K) fT fdT) :
    FnOk P wrl K mg base CX0 4 f fd ["name", "value", "order"] (spField K) := by
  obtain ⟨t1, hHo⟩ := R.gHo
  obtain ⟨t2, hNs⟩ := R.gNs
  obtain ⟨t3, hPl⟩ := R.gPl
  refine F.ok scIsField (fun vs H Q E h => ?_) (fun cdv A outer s H vs Q E hr h => ?_)
  · obtain ⟨n, x, d, o, rfl, _⟩ := h
    rfl
  · obtain ⟨n, x, d, o, rfl, hd, q⟩ := h
    have hr2 : Room 2 _ := hr.mono (by decide)
    have hr1 : Room 1 _ := hr.mono (by decide)
    obtain ⟨t, ty, _, k2, k3, _⟩ := dp_ty hd
    refine ⟨_, pss_cons (ps_if (pt_cmpR op_eq (pv 0) pe_str (nomark _)) (pss_one (ps_ret (pe_call GB.ok hr2 (by rfl) GB.mg GB.kp GB.bd .nil pass0 (pa_cons (pv 1) (pa_cons pe_int (pa_cons (pe_glob (v := .int 8) (by rfl) hNs ⟨_, rfl⟩) pa_nil)))))) pss_nil)
      (pss_cons (ps_if (pt_cmpR op_eq (pv 0) pe_str (nomark _)) (pss_one (ps_ret (pe_call GB.ok hr2 (by rfl) GB.mg GB.kp GB.bd .nil pass0 (pa_cons (pv 1) (pa_cons pe_int (pa_cons (pe_op op_sub (pe_glob (v := .int 64) (by rfl) hPl ⟨_, rfl⟩) pe_int) pa_nil)))))) pss_nil)
      (pss_cons (ps_if (pt_cmpR op_eq (pv 0) pe_str (nomark _)) (pss_one (ps_ret (pe_call GW.ok hr1 (by rfl) GW.mg GW.kp GW.bd .nil pass0 (pa_cons (pv 1) pa_nil)))) pss_nil)
      (pss_cons (ps_if (pt_cmpR op_eq (pv 0) pe_str (nomark _)) (pss_one (ps_ret (pe_call GB.ok hr2 (by rfl) GB.mg GB.kp GB.bd .nil pass0 (pa_cons (pv 1) (pa_cons pe_int (pa_cons (pe_glob (v := .int 64) (by rfl) hPl ⟨_, rfl⟩) pa_nil)))))) pss_nil)
      (pss_cons (ps_if (pt_cmpR op_eq (pv 0) pe_str (nomark _)) (pss_one (ps_ret (pe_call GB.ok hr2 (by rfl) GB.mg GB.kp GB.bd .nil pass0 (pa_cons (pv 1) (pa_cons pe_int (pa_cons (pe_op op_sub (pv 2) pe_int) pa_nil)))))) pss_nil)
      (pss_cons (ps_if (pt_cmpR op_eq (pv 0) pe_str (nomark _)) (pss_one (ps_ret (pe_call GB.ok hr2 (by rfl) GB.mg GB.kp GB.bd .nil pass0 (pa_cons (pv 1) (pa_cons pe_int (pa_cons (pe_op op_sub (pe_glob (v := .int 4) (by rfl) hHo ⟨_, rfl⟩) pe_int) pa_nil)))))) pss_nil)
      (pss_cons (ps_if (pt_cmpR op_eq (pv 0) pe_str (nomark _)) (pss_one (ps_ret (pe_callB call_isi (by rfl) B.isi boot_isi (pa_cons (pv 1) (pa_cons (pe_bltn (v := .ty "bool") (by rfl) B.bool boot_bool rfl) pa_nil))))) pss_nil)
      (pss_cons (ps_if (pt_cmpR op_eq (pv 0) pe_str (nomark _)) (pss_one (ps_ret (pe_or (pe_cmpR op_isN (pv 1) pe_non (nomark _)) (pe_one (pe_call GT.ok hr (by rfl) GT.mg GT.kp GT.bd .nil pass0 (pa_cons (pv 1) pa_nil)))))) pss_nil)
      (pss_cons (ps_if (PW.pt (pw_and (pt_cmpR op_eq (pv 0) pe_str (nomark _)) (pw_and1 (pt_cmpR op_isN (pv 1) pe_non (nomark _))))) (pss_one (ps_ret pe_bl)) pss_nil)
      (pss_one (ps_ret (pe_and (pe_callB call_isi (by rfl) B.isi boot_isi (pa_cons (pv 1) (pa_cons (pe_bltn (v := .ty "str") (by rfl) B.str boot_str rfl) pa_nil))) (pe_one (pe_cmpR op_in_seq (pv 1) (pe_tup (pa_cons pe_str (pa_cons pe_str pa_nil))) (by rfl)))))))))))))), ?_⟩
    have q0 := q H (Same.refl H)
    unfold fieldD at q q0
    refine ⟨_, rfl, rfl, _, rfl, ?_⟩
    by_cases h1 : n = "namespace"
    · rw [if_pos h1] at q0; subst h1; rw [str_eqT]
      exact iteT ⟨_, rfl, x, d, 1, 8, rfl, hd, q0⟩
    rw [if_neg h1] at q q0; rw [str_eqF h1]
    refine iteF ⟨_, rfl, rfl, _, rfl, ?_⟩
    by_cases h2 : n = "place"
    · rw [if_pos h2] at q0; subst h2; rw [str_eqT]
      exact iteT ⟨_, rfl, _, _, rfl, rfl, x, d, 0, 63, rfl, hd, q0⟩
    rw [if_neg h2] at q q0; rw [str_eqF h2]
    refine iteF ⟨_, rfl, rfl, _, rfl, ?_⟩
    by_cases h3 : n = "value"
    · rw [if_pos h3] at q0; subst h3; rw [str_eqT]
      exact iteT ⟨_, rfl, x, d, rfl, hd, q0⟩
    rw [if_neg h3] at q q0; rw [str_eqF h3]
    refine iteF ⟨_, rfl, rfl, _, rfl, ?_⟩
    by_cases h4 : n = "size"
    · rw [if_pos h4] at q0; subst h4; rw [str_eqT]
      exact iteT ⟨_, rfl, x, d, 1, 64, rfl, hd, q0⟩
    rw [if_neg h4] at q q0; rw [str_eqF h4]
    refine iteF ⟨_, rfl, rfl, _, rfl, ?_⟩
    by_cases h5 : n = "snapshot"
    · rw [if_pos h5] at q0; subst h5; rw [str_eqT]
      exact iteT ⟨_, rfl, _, rfl, _, _, rfl, rfl, x, d, 1, o - 1, rfl, hd, q0⟩
    rw [if_neg h5] at q q0; rw [str_eqF h5]
    refine iteF ⟨_, rfl, rfl, _, rfl, ?_⟩
    by_cases h6 : n = "victim"
    · rw [if_pos h6] at q0; subst h6; rw [str_eqT]
      exact iteT ⟨_, rfl, _, _, rfl, rfl, x, d, 0, 3, rfl, hd, q0⟩
    rw [if_neg h6] at q q0; rw [str_eqF h6]
    refine iteF ⟨_, rfl, rfl, _, rfl, ?_⟩
    by_cases h7 : n = "held"
    · rw [if_pos h7] at q0; subst h7; rw [str_eqT]
      exact iteT ⟨_, rfl, x, _, t, _, _, rfl, .ty "bool", ty, k2, q0⟩
    rw [if_neg h7] at q q0; rw [str_eqF h7]
    refine iteF ⟨_, rfl, rfl, _, rfl, ?_⟩
    by_cases h8 : n = "told"
    · rw [if_pos h8] at q0; subst h8; rw [str_eqT]
      refine iteT ⟨_, rfl, rfl, _, rfl, ?_⟩
      rw [dp_non hd]
      cases n3 : noneB d with
      | true => rw [n3] at q0; exact iteT q0
      | false => rw [n3] at q0; exact iteF ⟨_, rfl, x, d, rfl, hd, q0⟩
    rw [if_neg h8] at q q0; rw [str_eqF h8]
    refine iteF ⟨_, rfl, rfl, _, rfl, ?_⟩
    have last : (∀ H', Same H H' → Q (.bl (strInD ["write", "alone"] d)) H') → tAndV (tCB (rIsi K) (tCons (tVar 1) (tCons (tC (.ty "str")) tNil))) (tOp (rIn K false) (tVar 1) (tTup (tCons (tC (.str "write")) (tCons (tC (.str "alone")) tNil)))) [some (.str n), some x, some (.int o)] H Q := by
      intro q
      refine ⟨_, rfl, x, _, t, _, _, rfl, .ty "str", ty, k3, _, rfl, ?_⟩
      cases hd with
      | str z =>
        refine iteT ⟨_, rfl, by show 2 ≤ sizeLine; decide, fun tt ht => ⟨tt, _, rfl, .inr (SqT.of upd_same), rfl, rfl, ?_⟩⟩
        have e : inV (.str z) ((["write", "alone"] : List Str).map V.str) = strInD ["write", "alone"] (.str z) := inV_str
        have := q _ (same_new (o := .tup [.str "write", .str "alone"]) ht)
        rw [← e] at this
        exact this
      | non => exact iteF (q H (Same.refl H))
      | bl b => exact iteF (q H (Same.refl H))
      | int i => exact iteF (q H (Same.refl H))
      | lst h1 h2 => exact iteF (q H (Same.refl H))
      | tup h1 h2 => exact iteF (q H (Same.refl H))
    by_cases h9 : n = "way or none"
    · rw [decide_eq_true (show V.str n = V.str "way or none" by rw [h9])]
      refine iteT ⟨_, rfl, rfl, _, rfl, ?_⟩
      rw [dp_non hd]
      cases n3 : noneB d with
      | true =>
        rw [if_pos ⟨h9, n3⟩] at q0
        exact iteT q0
      | false =>
        rw [if_neg (by rintro ⟨_, z⟩; rw [n3] at z; cases z)] at q
        refine iteF ?_
        exact last q
    · rw [if_neg (by rintro ⟨z, _⟩; exact h9 z)] at q
      rw [str_eqF h9]
      refine iteF (iteF ?_)
      exact last q
end
end Sg

set_option Elab.async false
set_option linter.all false
set_option maxRecDepth 100000
set_option maxHeartbeats 4000000
namespace Sg
open PySem PySem.Spec PyProof.Rows L2
/-- what is known of the error -/
structure NV (K : PySem.W.Frag) (mg : Str → Option Value) (CN CS : Addr) : Prop where
  gN : mg "NotValid" = some (.ref CN)
  xN : PySem.W.excIn K CN [.type "ValueError", .type "Exception", .type "BaseException", .type "object"] "ValueError.__new__" = true
  kN : PySem.W.keepIn K (.ref CN) = true
  bN : PySem.W.subIn K (.ref CN) (.type "BaseException") = some true
  tN : PySem.W.typeIn K (.ref CN) = some (.type "type")
  gS : mg "SpindleError" = some (.ref CS)
  eN : PySem.W.exmOne K (.ref CN) (.ref CS) = some true
theorem ps_notValid {X : Cx} {W : WX} {p pos pos2 : Pos} {CN CS : Addr} (T : NV X.K X.mg CN CS) (hc : X.calm = true) (tk : Takes X W) (hg : Gl X "NotValid") : PS X (.Raise (some (.Call (.Name "NotValid" p) [] [] pos)) none pos2) (fun _ σ H => W (.ref CN) Option.none σ H) :=
  ps_raise hc tk (pmk_own0 PySem.F.excBase_ValueError T.xN T.gN T.kN (raises_own T.bN T.tN) hg)
theorem yesIte {σ : L2.St} {H : Hp} {A B : Hp → Prop} (h : A H) : tYes σ H (fun b H3 => if b = true then A H3 else B H3) := by
  show (if true = true then A H else B H)
  rw [if_pos rfl]; exact h
theorem nil_ {σ : L2.St} {H : Hp} {Q : List V → Hp → Prop} (h : Q [] H) : tNil σ H Q := h
section
variable {K : PySem.W.Frag} {σ : L2.St} {H1 : Hp} {D a b : Addr} {vs : List Nat} {j1 j2 : Nat} {xs ys : List V} {te : TE} {Qd : Hp → Prop}
theorem lc_zipS (bs : List Bool) (hl : xs.length = ys.length) (hlen : bs.length = xs.length) (hD : H1 D = Option.none) (hx : SqT K H1 a xs) (hy : SqT K H1 b ys) (hw : ∀ x y, wipe (((wipe σ vs).set j1 (some x)).set j2 (some y)) vs = wipe σ vs) (hz : xs.length ≤ 1000)
    (he : ∀ (i : Nat) (x y : V) (bb : Bool) (H' : Hp) (Q' : VK), xs[i]? = some x → ys[i]? = some y → bs[i]? = some bb → Same H1 H' → (∀ H'', Same H' H'' → Q' (.bl bb) H'') → te (((wipe σ vs).set j1 (some x)).set j2 (some y)) H' Q')
    (hd : ∀ H', Same H1 H' → H' D = some (.lst (bs.map V.bl)) → Qd H') :
    ∃ W : Nat → Nat → Hp → Prop, (∃ m, W 0 m (upd H1 D (.lst []))) ∧ ∀ i m H, W i m H →
      ((RZ.ItzT K a b).stop i H ∧ Qd H) ∨ ((RZ.ItzT K a b).go i H ∧ ∃ Nx : Hp → Prop, (∀ H', Nx H' → ∃ m', m' < m ∧ W (i + 1) m' H') ∧ ∀ x H', (RZ.ItzT K a b).yld i H x H' → gTup K 2 (gCons (gName j1) (gCons (gName j2) gNil)) x (wipe σ vs) H' fun σ2 H2 => wipe σ2 vs = wipe σ vs ∧ tYes σ2 H2 fun b H3 =>
        if b = true then te σ2 H3 fun y H4 => ∃ acc, H4 D = some (.lst acc) ∧ acc.length < sizeLine ∧ Nx (upd H4 D (.lst (acc ++ [y]))) else Nx H3) := by
  refine ⟨fun i m H => m = xs.length - i ∧ i ≤ xs.length ∧ Same H1 H ∧ H D = some (.lst ((bs.map V.bl).take i)), ⟨xs.length, by simp, Nat.zero_le _, same_new hD, upd_same⟩, ?_⟩
  rintro i m H ⟨rfl, hi, sm, hDl⟩
  have hxa := SqT_same sm hx
  have hyb := SqT_same sm hy
  by_cases hlt : i < xs.length
  · have hix : xs[i]? = some xs[i] := List.getElem?_eq_getElem hlt
    have hiy : ys[i]? = some (ys[i]'(by omega)) := List.getElem?_eq_getElem (by omega)
    have hib : bs[i]? = some (bs[i]'(by omega)) := List.getElem?_eq_getElem (by omega)
    refine .inr ⟨⟨xs, ys, _, _, hxa, hyb, hix, hiy⟩, fun H' => i + 1 ≤ xs.length ∧ Same H1 H' ∧ H' D = some (.lst ((bs.map V.bl).take (i + 1))), fun H' p' => ⟨xs.length - (i + 1), by omega, rfl, p'⟩, ?_⟩
    rintro x H' ⟨T, x0, y0, rfl, hT, rfl, f1, f2⟩
    have e1 := f1 _ hxa
    have e2 := f2 _ hyb
    have s2 := same_new (o := .tup [x0, y0]) hT
    refine ⟨T, _, rfl, SqT.of upd_same, rfl, _, _, rfl, _, _, rfl, rfl, hw _ _, yesIte ?_⟩
    refine he i x0 y0 _ _ _ e1 e2 hib (sm.trans s2) fun H'' s3 => ⟨_, s3 _ _ (s2 _ _ hDl), ?_, by omega, ?_, ?_⟩
    · rw [List.length_take]; exact small1000 (by omega)
    · intro y o hy'
      rw [upd_ne (ne_of_none hy' hD)]
      exact s3 _ _ (s2 _ _ (sm _ _ hy'))
    · rw [upd_same, List.take_add_one, List.getElem?_map, hib]; rfl
  · have e : i = xs.length := by omega
    refine .inl ⟨⟨xs, ys, hxa, hyb, .inl (by omega)⟩, hd H sm ?_⟩
    rw [hDl, e, List.take_of_length_le (by rw [List.length_map]; omega)]
end
def spIsRec (K : PySem.W.Frag) : Sp := fun vs H Q _ => ∃ x d, vs = [x] ∧ Dp K H x d ∧ ∀ H', Same H H' → Q (.bl (recD d)) H'
/-- the slice of the head, of what is behind it -/
theorem cut_head {x1 x2 x3 x4 x5 : V} {r : List V} : cutV (x1 :: x2 :: x3 :: x4 :: x5 :: r) Option.none (some 5) = [x1, x2, x3, x4, x5] := by
  unfold cutV
  rw [show HT.sIx (x1 :: x2 :: x3 :: x4 :: x5 :: r).length 0 none = 0 from HT.sIx_none _ _, show (some (5 : Int)) = some ((5 : Nat) : Int) from rfl, HT.sIx_nat]
  rw [Nat.min_eq_left (by simp only [List.length_cons]; omega)]
  rfl
theorem cut_tail {x1 x2 x3 x4 x5 : V} {r : List V} : cutV (x1 :: x2 :: x3 :: x4 :: x5 :: r) (some 5) Option.none = r := by
  unfold cutV
  rw [show HT.sIx (x1 :: x2 :: x3 :: x4 :: x5 :: r).length (x1 :: x2 :: x3 :: x4 :: x5 :: r).length none = (x1 :: x2 :: x3 :: x4 :: x5 :: r).length from HT.sIx_none _ _, show (some (5 : Int)) = some ((5 : Nat) : Int) from rfl, HT.sIx_nat]
  rw [Nat.min_eq_left (by simp only [List.length_cons]; omega)]
  show (r.take _) = r
  exact List.take_of_length_le (by simp only [List.length_cons]; omega)
section
variable {P : Program} {wrl : World} {K : PySem.W.Frag} {mg : Str → Option Value} {base : Heap} {f fW fA fB fT fK fC fF fN CN CS aK aF : Addr} {fd fdW fdA fdB fdT fdK fdC fdF fdN : FuncData}
theorem scCount : FnScope ["kind"] ["kind"] (defScope sCount) := ⟨rfl, rfl, rfl, by decide +kernel, rfl, by decide +kernel, by decide +kernel⟩
theorem ok_count (F : Fun K "field_count" "field_count" sCount f fd) (T : NV K mg CN CS) (R : RX K wrl mg aK aF) (hlen : mg "len" = none) (GK : Def P wrl K mg base CX0 "_is_kind" 1 ["value"] (spKindQ K) fK fdK) :
    FnOk P wrl K mg base (L2.CX P wrl) 2 f fd ["kind"] spCount := by
  refine F.okX scCount (fun vs H Q E h => ?_) (fun cdv A outer s H vs Q E hr h => ?_)
  · obtain ⟨p, _, rfl, _⟩ := h
    rfl
  · obtain ⟨p, hp, rfl, q⟩ := h
    refine ⟨_, pss_cons (ps_if (pt_not (pt_val (pe_call GK.ok hr (by rfl) GK.mg GK.kp GK.bd .nil pass0 (pa_cons (pv 0) pa_nil)))) (pss_one (ps_notValid T rfl (takes_of rfl rfl rfl rfl) (by rfl))) pss_nil)
      (pss_one (ps_ret (pe_callB call_len_seq (by rfl) hlen PySem.boot_len (pa_cons (pe_ix ix_kdict (pe_glob (v := .ref aF) (by rfl) R.gF rfl) (pv 0) (fun _ _ => rfl)) pa_nil)))), ?_⟩
    have hk : strInD kindsL (.str p.1) = true := by
      have : ∀ p ∈ fieldT, strIn p.1 kindsL = true := by decide +kernel
      exact this p hp
    obtain ⟨a, ka, sa⟩ := R.fT p hp
    refine ⟨_, rfl, _, .str p.1, rfl, .str _, _, rfl, ?_⟩
    rw [hk]
    refine iteF ⟨_, rfl, aF, p.1, .ref a, rfl, rfl, ka, a, _, rfl, .inr (sa H), ?_⟩
    rw [List.length_map]
    exact q
end
end Sg

set_option Elab.async false
set_option linter.all false
set_option maxRecDepth 100000
set_option maxHeartbeats 4000000
namespace Sg
open PySem PySem.Spec PyProof.Rows L2
theorem zip_bs {ns : List Str} {fs : List PyData} {o : Int} : ((ns.zip fs).map fun p => fieldD p.1 p.2 o).all id = fieldsD ns fs o := by
  unfold fieldsD
  rw [List.all_map]; rfl
theorem dpAll_get {K : PySem.W.Frag} {H : Hp} : ∀ {xs : List V} {ds : List PyData} {i : Nat} {x : V}, DpAll K H xs ds → xs[i]? = some x → ∃ d, ds[i]? = some d ∧ Dp K H x d
  | _, _, i, x, .nil, h => by simp at h
  | _, _, 0, x, .cons a b, h => ⟨_, rfl, by simp at h; subst h; exact a⟩
  | _, _, i + 1, x, .cons a b, h => by
    obtain ⟨d, e1, e2⟩ := dpAll_get b (i := i) (by simpa using h)
    exact ⟨d, by simpa using e1, e2⟩
theorem dpAll_5 {K : PySem.W.Frag} {H : Hp} {xs : List V} {ds : List PyData} (h : DpAll K H xs ds) (h5 : ¬ ds.length < 5) : ∃ x1 x2 x3 x4 x5 ys d1 d2 d3 d4 d5 fs, xs = x1 :: x2 :: x3 :: x4 :: x5 :: ys ∧ ds = d1 :: d2 :: d3 :: d4 :: d5 :: fs ∧ Dp K H x1 d1 ∧ Dp K H x2 d2 ∧ Dp K H x3 d3 ∧ Dp K H x4 d4 ∧ Dp K H x5 d5 ∧ DpAll K H ys fs := by
  match ds, h5 with
  | [], h => exact absurd (show (0 : Nat) < 5 by decide) h
  | [_], h => exact absurd (show (1 : Nat) < 5 by decide) h
  | [_, _], h => exact absurd (show (2 : Nat) < 5 by decide) h
  | [_, _, _], h => exact absurd (show (3 : Nat) < 5 by decide) h
  | [_, _, _, _], h => exact absurd (show (4 : Nat) < 5 by decide) h
  | d1 :: d2 :: d3 :: d4 :: d5 :: fs, _ =>
    obtain ⟨x1, r1, rfl, a1, b1⟩ := dpAll_cons h
    obtain ⟨x2, r2, rfl, a2, b2⟩ := dpAll_cons b1
    obtain ⟨x3, r3, rfl, a3, b3⟩ := dpAll_cons b2
    obtain ⟨x4, r4, rfl, a4, b4⟩ := dpAll_cons b3
    obtain ⟨x5, r5, rfl, a5, b5⟩ := dpAll_cons b4
    exact ⟨_, _, _, _, _, _, _, _, _, _, _, _, rfl, rfl, a1, a2, a3, a4, a5, b5⟩
theorem rec_eq {k : Str} {ns : List Str} {o : Int} {d3 d4 d5 : PyData} {fs : List PyData} (h : fieldT.lookup k = some ns) :
    recD (.tuple (.int o :: .str k :: d3 :: d4 :: d5 :: fs)) = (decide (fs.length = ns.length) && (decide (1 ≤ o) && betwD 0 3 d3 && (atLeastD 1 d4 && counterD k d5 && fieldsD ns fs o))) := by
  show (match fieldT.lookup k with
    | some ns => decide (fs.length = ns.length) && (decide (1 ≤ o) && betwD 0 3 d3 && (atLeastD 1 d4 && counterD k d5 && fieldsD ns fs o))
    | none => false) = _
  rw [h]
theorem in_kinds {k : Str} {ns : List Str} (h : fieldT.lookup k = some ns) : strIn k kindsL = true := by
  have : ∀ p ∈ fieldT, strIn p.1 kindsL = true := by decide +kernel
  exact this _ (PySem.mem_of_lookup h)
theorem rec_nokind {d1 d2 d3 d4 d5 : PyData} {fs : List PyData} (h : strInD kindsL d2 = false) : recD (.tuple (d1 :: d2 :: d3 :: d4 :: d5 :: fs)) = false := by
  cases d2 with
  | str k =>
    cases d1 with
    | int o =>
      show (match fieldT.lookup k with
        | some ns => decide (fs.length = ns.length) && (decide (1 ≤ o) && betwD 0 3 d3 && (atLeastD 1 d4 && counterD k d5 && fieldsD ns fs o))
        | none => false) = false
      cases e : fieldT.lookup k with
      | none => rfl
      | some ns =>
        have := in_kinds e
        rw [show strInD kindsL (.str k) = strIn k kindsL from rfl, this] at h
        cases h
    | _ => rfl
  | _ => cases d1 <;> rfl
theorem rec_noint {d1 d2 d3 d4 d5 : PyData} {fs : List PyData} (h : atLeastD 1 d1 = false) : recD (.tuple (d1 :: d2 :: d3 :: d4 :: d5 :: fs)) = false := by
  cases d1 with
  | int o =>
    cases d2 with
    | str k =>
      show (match fieldT.lookup k with
        | some ns => decide (fs.length = ns.length) && (decide (1 ≤ o) && betwD 0 3 d3 && (atLeastD 1 d4 && counterD k d5 && fieldsD ns fs o))
        | none => false) = false
      have h' : decide ((1 : Int) ≤ o) = false := h
      cases e : fieldT.lookup k with
      | none => rfl
      | some ns => simp only [h', Bool.false_and, Bool.and_false]
    | _ => rfl
  | _ => cases d2 <;> rfl
theorem rec_short {ds : List PyData} (h : ds.length < 5) : recD (.tuple ds) = false := by
  match ds, h with
  | [], _ => rfl
  | [d], _ => cases d <;> rfl
  | [d, e], _ => cases d <;> cases e <;> rfl
  | [d, e, _], _ => cases d <;> cases e <;> rfl
  | [d, e, _, _], _ => cases d <;> cases e <;> rfl
theorem dp_str {K : PySem.W.Frag} {H : Hp} {x : V} {d : PyData} {ns : List Str} (h : Dp K H x d) (w : strInD ns d = true) : ∃ k, x = .str k ∧ d = .str k ∧ strIn k ns = true := by
  cases h <;> first | exact ⟨_, rfl, rfl, w⟩ | cases w
section
variable {P : Program} {wrl : World} {K : PySem.W.Frag} {mg : Str → Option Value} {base : Heap} {f fW fA fB fT fK fC fF fN CN CS aK aF : Addr} {fd fdW fdA fdB fdT fdK fdC fdF fdN : FuncData}
abbrev RN : List Str := ["value", "order", "kind", "host", "session", "counter", "name", "field"]
theorem scIsRec : FnScope RN ["value"] (defScope sIsRec) := ⟨rfl, rfl, rfl, by decide +kernel, rfl, by decide +kernel, by decide +kernel⟩
theorem ok_isRec (F : Fun K "is_record" "is_record" sIsRec f fd) (B : Bds mg fW) (R : RX K wrl mg aK aF) (hlen : mg "len" = none) (hall : mg "all" = none) (hzip : mg "zip" = none)
    (GA : Def P wrl K mg base CX0 "is_at_least" 2 ["value", "low"] (spAtLeast K) fA fdA) (GB : Def P wrl K mg base CX0 "is_between" 2 ["value", "low", "high"] (spBetween K) fB fdB)
    (GK : Def P wrl K mg base CX0 "_is_kind" 1 ["value"] (spKindQ K) fK fdK) (GC : Def P wrl K mg base CX0 "_is_counter" 3 ["value", "kind"] (spCounter K) fC fdC)
    (GF : Def P wrl K mg base CX0 "_is_field" 4 ["name", "value", "order"] (spField K) fF fdF) (GN : Def P wrl K mg base (L2.CX P wrl) "field_count" 2 ["kind"] spCount fN fdN) :
    FnOk P wrl K mg base CX0 5 f fd ["value"] (spIsRec K) := by
  obtain ⟨t0, hHd⟩ := R.gHd
  obtain ⟨t1, hHo⟩ := R.gHo
  refine F.ok scIsRec (fun vs H Q E h => ?_) (fun cdv A outer s H vs Q E hr h => ?_)
  · obtain ⟨x, d, rfl, _⟩ := h
    rfl
  · obtain ⟨x, d, rfl, hd, q⟩ := h
    have hr3 : Room 3 _ := hr.mono (by decide)
    have hr2 : Room 2 _ := hr.mono (by decide)
    have hr1 : Room 1 _ := hr.mono (by decide)
    obtain ⟨t, ty, _, _, _, h4, _⟩ := dp_ty hd
    refine ⟨_, pss_cons (ps_if (PW.pt (pw_or (pt_not (pt_val (pe_callB call_isi (by rfl) B.isi boot_isi (pa_cons (pv 0) (pa_cons (pe_bltn (v := .ty "tuple") (by rfl) B.tup boot_tuple rfl) pa_nil))))) (pw_or1 (pt_cmpR op_lt (pe_callB call_len_seq (by rfl) hlen PySem.boot_len (pa_cons (pv 0) pa_nil)) (pe_glob (v := .int 5) (by rfl) hHd ⟨_, rfl⟩) (nomark _))))) (pss_one (ps_ret pe_bl)) pss_nil)
      (pss_cons (ps_asg (pe_slice sl_any (pv 0) po_none (po_some (pe_glob (v := .int 5) (by rfl) hHd ⟨_, rfl⟩))) (pg_tup (by rfl) (pgs_cons (pg_name (i := 1) scIsRec.nd rfl (Or.inr rfl)) (pgs_cons (pg_name (i := 2) scIsRec.nd rfl (Or.inl rfl)) (pgs_cons (pg_name (i := 3) scIsRec.nd rfl (Or.inl rfl)) (pgs_cons (pg_name (i := 4) scIsRec.nd rfl (Or.inl rfl)) (pgs_cons (pg_name (i := 5) scIsRec.nd rfl (Or.inl rfl)) L2.pgs_nil)))))))
      (pss_cons (ps_if (PW.pt (pw_or (pt_not (pt_val (pe_call GK.ok hr1 (by rfl) GK.mg GK.kp GK.bd .nil pass0 (pa_cons (pv 2) pa_nil)))) (pw_or1 (pt_cmpR op_ne (pe_callB call_len_seq (by rfl) hlen PySem.boot_len (pa_cons (pv 0) pa_nil)) (pe_op op_add (pe_glob (v := .int 5) (by rfl) hHd ⟨_, rfl⟩) (pe_call GN.ok hr2 (by rfl) GN.mg GN.kp GN.bd .nil passL (pa_cons (pv 2) pa_nil))) (nomark _))))) (pss_one (ps_ret pe_bl)) pss_nil)
      (pss_cons (ps_if (PW.pt (pw_or (pt_not (pt_val (pe_call GA.ok hr2 (by rfl) GA.mg GA.kp GA.bd .nil pass0 (pa_cons (pv 1) (pa_cons pe_int pa_nil))))) (pw_or1 (pt_not (pt_val (pe_call GB.ok hr2 (by rfl) GB.mg GB.kp GB.bd .nil pass0 (pa_cons (pv 3) (pa_cons pe_int (pa_cons (pe_op op_sub (pe_glob (v := .int 4) (by rfl) hHo ⟨_, rfl⟩) pe_int) pa_nil))))))))) (pss_one (ps_ret pe_bl)) pss_nil)
      (pss_cons (ps_if (PW.pt (pw_or (pt_not (pt_val (pe_call GA.ok hr2 (by rfl) GA.mg GA.kp GA.bd .nil pass0 (pa_cons (pv 4) (pa_cons pe_int pa_nil))))) (pw_or1 (pt_not (pt_val (pe_call GC.ok hr3 (by rfl) GC.mg GC.kp GC.bd .nil pass0 (pa_cons (pv 5) (pa_cons (pv 2) pa_nil)))))))) (pss_one (ps_ret pe_bl)) pss_nil)
      (pss_one (ps_ret (pe_callB (cr_all rfl) (by rfl) hall (by decide +kernel) (pa_cons (pe_lc (own := [("name", 6), ("field", 7)]) (g := gTup K 2 (gCons (gName 6) (gCons (gName 7) gNil))) (tt := tYes) (te := tCall (spField K) [] E0 (tCons (tVar 6) (tCons (tVar 7) (tCons (tVar 1) tNil)))) (by rfl) scIsRec.nd
          (RZ.pi_zipA (by rfl) hzip (pa_cons (pe_ix ix_kdict (pe_glob (v := .ref aF) (by rfl) R.gF rfl) (pv 2) (fun _ _ => rfl)) (pa_cons (pe_slice sl_any (pv 0) (po_some (pe_glob (v := .int 5) (by rfl) hHd ⟨_, rfl⟩)) po_none) pa_nil)))
          (blkOk_by (own := [("name", 6), ("field", 7)]) (N := RN) (sc := defScope sIsRec) (by decide +kernel)) (fun _ _ _ _ _ => pg_tup (by rfl) (pgs_cons (pg_name (i := 6) scIsRec.nd rfl (Or.inl rfl)) (pgs_cons (pg_name (i := 7) scIsRec.nd rfl (Or.inl rfl)) L2.pgs_nil))) (fun _ _ _ _ _ => pts_nil)
          (fun _ _ _ _ _ => by exact (pe_call GF.ok hr (by rfl) GF.mg GF.kp GF.bd .nil pass0 (pa_cons (pv 6) (pa_cons (pv 7) (pa_cons (pv 1) pa_nil)))))) pa_nil)))))))), ?_⟩
    refine ⟨_, rfl, x, _, t, _, _, rfl, .ty "tuple", ty, h4, _, rfl, ?_⟩
    have q0 := q H (Same.refl H)
    cases ht : tupB d with
    | false =>
      have e : recD d = false := by cases d <;> first | rfl | cases ht
      rw [e] at q0
      exact iteT (iteT q0)
    | true =>
      refine iteF ?_
      obtain ⟨a, xs, ds, rfl, rfl, hs, ha⟩ := dp_tup hd ht
      have hl := dpAll_len ha
      refine ⟨_, rfl, a, xs, rfl, .inr hs, _, _, rfl, rfl, _, rfl, ?_⟩
      by_cases h5 : ds.length < 5
      · rw [rec_short h5] at q0
        rw [decide_eq_true (show (xs.length : Int) < 5 by omega)]
        exact iteT q0
      rw [decide_eq_false (show ¬ (xs.length : Int) < 5 by omega)]
      refine iteF ?_
      obtain ⟨x1, x2, x3, x4, x5, ys, d1, d2, d3, d4, d5, fs, rfl, rfl, e1, e2, e3, e4, e5, e6⟩ := dpAll_5 ha h5
      refine ⟨_, rfl, 5, rfl, a, _, rfl, hs, fun p H1 s1 hp => ?_⟩
      rw [cut_head] at hp
      refine ⟨p, _, rfl, hp, rfl, _, _, rfl, _, _, rfl, _, _, rfl, _, _, rfl, _, _, rfl, rfl, ?_⟩
      have hs1 := SqT_same s1 hs
      have q1 := q H1 s1
      refine ⟨_, rfl, x2, d2, rfl, dp_same s1 _ _ e2, _, rfl, ?_⟩
      cases hk : strInD kindsL d2 with
      | false =>
        rw [rec_nokind hk] at q1
        exact iteT (iteT q1)
      | true =>
        refine iteF ?_
        obtain ⟨k, rfl, rfl, hk'⟩ := dp_str e2 hk
        obtain ⟨ns, hmem, hlook⟩ := kind_in hk'
        obtain ⟨a', ka, sa⟩ := R.fT _ hmem
        have hl6 := dpAll_len e6
        refine ⟨_, rfl, a, _, rfl, .inr hs1, _, rfl, (k, ns), hmem, rfl, _, _, rfl, rfl, rfl, _, rfl, ?_⟩
        by_cases hfl : fs.length = ns.length
        · rw [decide_eq_true (show V.int (((x1 :: V.str k :: x3 :: x4 :: x5 :: ys).length : Nat) : Int) = V.int (5 + (ns.length : Int)) by
            simp only [List.length_cons]; congr 1; omega)]
          refine iteF ?_
          refine ⟨_, rfl, x1, d1, 1, rfl, dp_same s1 _ _ e1, _, rfl, ?_⟩
          cases b1 : atLeastD 1 d1 with
          | false =>
            rw [rec_noint b1] at q1
            exact iteT (iteT q1)
          | true =>
            obtain ⟨o, rfl, rfl⟩ : ∃ o, x1 = .int o ∧ d1 = .int o := by
              cases e1 <;> first | exact ⟨_, rfl, rfl⟩ | cases b1
            rw [rec_eq hlook, decide_eq_true hfl, show decide ((1 : Int) ≤ o) = true from b1] at q q1
            refine iteF ⟨_, rfl, _, _, rfl, rfl, x3, d3, 0, 3, rfl, dp_same s1 _ _ e3, _, rfl, ?_⟩
            have q2 : Q (.bl (betwD 0 3 d3 && (atLeastD 1 d4 && counterD k d5 && fieldsD ns fs o))) H1 := q1
            cases b3 : betwD 0 3 d3 with
            | false =>
              rw [b3] at q2
              exact iteT q2
            | true =>
              rw [b3] at q2 q
              refine iteF ⟨_, rfl, x4, d4, 1, rfl, dp_same s1 _ _ e4, _, rfl, ?_⟩
              cases b4 : atLeastD 1 d4 with
              | false =>
                rw [b4] at q2
                exact iteT (iteT q2)
              | true =>
                rw [b4] at q2 q
                refine iteF ⟨_, rfl, _, rfl, x5, d5, k, rfl, dp_same s1 _ _ e5, _, rfl, ?_⟩
                cases b5 : counterD k d5 with
                | false =>
                  rw [b5] at q2
                  exact iteT q2
                | true =>
                  rw [b5] at q
                  refine iteF ?_
                  have q3 : ∀ H', Same H H' → Q (.bl (fieldsD ns fs o)) H' := q
                  refine ⟨_, rfl, aF, k, .ref a', rfl, rfl, ka, _, rfl, 5, rfl, a, _, rfl, hs1, fun p2 H2 s2 hp2 => ?_⟩
                  rw [cut_tail] at hp2
                  refine ⟨a', p2, ns.map V.str, ys, rfl, .inr ⟨sa H2, hp2, fun D hD => ?_⟩⟩
                  have hns : ns.length ≤ 1000 := by
                    have : ∀ p ∈ fieldT, p.2.length ≤ 1000 := by decide +kernel
                    exact this _ hmem
                  refine lc_zipS ((ns.zip fs).map fun p => fieldD p.1 p.2 o) (by rw [List.length_map]; show ns.length = ys.length; omega) (by rw [List.length_map, List.length_map, List.length_zip]; show min ns.length fs.length = ns.length; omega) hD (sa H2) hp2 (fun _ _ => rfl) (by rw [List.length_map]; exact hns) (fun i x y bb H' Q' hx hy hb s3 k3 => ?_) fun H3 s3 hDl => ?_
                  · obtain ⟨n, hn, rfl⟩ := map_get hx
                    have e6' := dpAll_same ((s1.trans s2).trans s3) _ _ e6
                    obtain ⟨dd, hdd, hdp⟩ := dpAll_get e6' hy
                    rw [List.getElem?_map, List.getElem?_zip_eq_some.mpr (by exact ⟨hn, hdd⟩ : ns[i]? = some (n, dd).1 ∧ fs[i]? = some (n, dd).2)] at hb
                    have hb' : fieldD n dd o = bb := by simpa using hb
                    refine ⟨_, rfl, _, rfl, _, rfl, n, y, dd, o, rfl, hdp, fun H'' s4 => ?_⟩
                    rw [hb']
                    exact k3 H'' s4
                  · refine ⟨D, _, rfl, SqL.of hDl, ?_⟩
                    rw [zip_bs]
                    exact q3 H3 ((s1.trans s2).trans s3)
        · rw [decide_eq_false (show ¬ V.int (((x1 :: V.str k :: x3 :: x4 :: x5 :: ys).length : Nat) : Int) = V.int (5 + (ns.length : Int)) by
            intro z; injection z with z; simp only [List.length_cons] at z; omega)]
          have e : recD (.tuple (d1 :: .str k :: d3 :: d4 :: d5 :: fs)) = false := by
            cases d1 with
            | int o => rw [rec_eq hlook, decide_eq_false hfl]; rfl
            | _ => rfl
          rw [e] at q1
          exact iteT q1
end
end Sg

set_option Elab.async false
set_option linter.all false
set_option maxRecDepth 100000
set_option maxHeartbeats 4000000
namespace Sg
open PySem PySem.Spec PyProof.Rows L2
def spMake (K : PySem.W.Frag) (CN : Addr) : Sp := fun vs H Q E => ∃ (x1 x2 x3 x4 x5 : V) (a : Addr) (ys : List V) (d1 d2 d3 d4 d5 : PyData) (fs : List PyData), vs = [x1, x2, x3, x4, x5, .ref a] ∧ H a = some (.lst ys) ∧ ys.length ≤ 100 ∧
  Dp K H x1 d1 ∧ Dp K H x2 d2 ∧ Dp K H x3 d3 ∧ Dp K H x4 d4 ∧ Dp K H x5 d5 ∧ DpAll K H ys fs ∧
  (recD (.tuple (d1 :: d2 :: d3 :: d4 :: d5 :: fs)) = false → ∀ H', Same H H' → E (.ref CN) Option.none H') ∧
  (recD (.tuple (d1 :: d2 :: d3 :: d4 :: d5 :: fs)) = true → ∀ t H', Same H H' → H' t = some (.tup (x1 :: x2 :: x3 :: x4 :: x5 :: ys)) → Q (.ref t) H')
def spFieldsOf (K : PySem.W.Frag) : Sp := fun vs H Q _ => ∃ (a : Addr) (x1 x2 x3 x4 x5 : V) (ys : List V), vs = [.ref a] ∧ SqT K H a (x1 :: x2 :: x3 :: x4 :: x5 :: ys) ∧ ∀ p H', Same H H' → SqT K H' p ys → Q (.ref p) H'
/-- the answer of a record, as data -/
def answD (k : Str) (o : Int) : PyData := if k = "mark" then .none else if strIn k ["snap", "register"] = true then .tuple [.str "ok", .int o] else .tuple [.str "ok", .none]
def spAnswer (K : PySem.W.Frag) : Sp := fun vs H Q _ => ∃ (o : Int) (k : Str), vs = [.int o, .str k] ∧ ∀ v H', Same H H' → Dp K H' v (answD k o) → Q v H'
def spAnswerOf (K : PySem.W.Frag) : Sp := fun vs H Q _ => ∃ (a : Addr) (o : Int) (k : Str) (r : List V), vs = [.ref a] ∧ SqT K H a (.int o :: .str k :: r) ∧ ∀ v H', Same H H' → Dp K H' v (answD k o) → Q v H'
theorem cut_two {x1 x2 : V} {r : List V} : cutV (x1 :: x2 :: r) Option.none (some 2) = [x1, x2] := by
  unfold cutV
  rw [show HT.sIx (x1 :: x2 :: r).length 0 none = 0 from HT.sIx_none _ _, show (some (2 : Int)) = some ((2 : Nat) : Int) from rfl, HT.sIx_nat]
  rw [Nat.min_eq_left (by simp only [List.length_cons]; omega)]
  rfl
theorem kit_any {K : PySem.W.Frag} : PySem.W.kitAny K (.type "list") [.type "list", .type "tuple"] = some true := by
  first | rfl | decide +kernel | (unfold PySem.W.kitAny; rw [show PySem.W.kitOne K (.type "list") (.type "list") = some true from kit_ty (by decide +kernel)]; rfl)
section
variable {P : Program} {wrl : World} {K : PySem.W.Frag} {mg : Str → Option Value} {base : Heap} {f fW fR CN CS aK aF : Addr} {fd fdW fdR : FuncData}
abbrev MN : List Str := ["order", "kind", "host", "session", "counter", "fields", "record"]
theorem scMake : FnScope MN ["order", "kind", "host", "session", "counter", "fields"] (defScope sMake) := ⟨rfl, rfl, rfl, by decide +kernel, rfl, by decide +kernel, by decide +kernel⟩
theorem ok_make (F : Fun K "make_record" "make_record" sMake f fd) (B : Bds mg fW) (T : NV K mg CN CS) (GR : Def P wrl K mg base CX0 "is_record" 5 ["value"] (spIsRec K) fR fdR) :
    FnOk P wrl K mg base (L2.CX P wrl) 6 f fd ["order", "kind", "host", "session", "counter", "fields"] (spMake K CN) := by
  refine F.okX scMake (fun vs H Q E h => ?_) (fun cdv A outer s H vs Q E hr h => ?_)
  · obtain ⟨x1, x2, x3, x4, x5, a, ys, d1, d2, d3, d4, d5, fs, rfl, _⟩ := h
    rfl
  · obtain ⟨x1, x2, x3, x4, x5, a, ys, d1, d2, d3, d4, d5, fs, rfl, ha, hlen, e1, e2, e3, e4, e5, e6, k0, k1⟩ := h
    refine ⟨_, pss_cons (ps_if (pt_not (pt_val (pe_callB call_isiT (by rfl) B.isi boot_isi (pa_cons (pv 5) (pa_cons (pe_tup (pa_cons (pe_bltn (v := .ty "list") (by rfl) B.lst boot_list rfl) (pa_cons (pe_bltn (v := .ty "tuple") (by rfl) B.tup boot_tuple rfl) pa_nil))) pa_nil))))) (pss_one (ps_notValid T rfl (takes_of rfl rfl rfl rfl) (by rfl))) pss_nil)
      (pss_cons (ps_set (i := 6) scMake.nd rfl (Or.inl rfl) (pe_tup (pa_cons (pv 0) (pa_cons (pv 1) (pa_cons (pv 2) (pa_cons (pv 3) (pa_cons (pv 4) (StX.pa_star (pv 5) pa_nil))))))))
      (pss_cons (ps_if (pt_not (pt_val (pe_call GR.ok hr (by rfl) GR.mg GR.kp GR.bd .nil pass0 (pa_cons (pv 6) pa_nil)))) (pss_one (ps_notValid T rfl (takes_of rfl rfl rfl rfl) (by rfl))) pss_nil)
      (pss_one (ps_ret (pv 6))))), ?_⟩
    refine ⟨_, rfl, by show 2 ≤ sizeLine; decide, fun tt htt => ?_⟩
    have s1 := same_new (o := .tup [.ty "list", .ty "tuple"]) htt
    refine ⟨.ref a, tt, _, .type "list", [.type "list", .type "tuple"], true, rfl, upd_same, .cons (.ty "list") (.cons (.ty "tuple") .nil), .base (.lst (s1 _ _ ha)), kit_any, true, rfl, iteF ?_⟩
    refine ⟨_, rfl, _, rfl, _, rfl, _, rfl, _, rfl, _, rfl, a, ys, rfl, .inr (SqL.of (s1 _ _ ha)), ?_, fun t ht => ?_⟩
    · show ([x1, x2, x3, x4, x5] ++ (ys ++ [])).length ≤ sizeLine
      rw [List.append_nil, List.length_append]
      exact Nat.le_of_lt (small1000 (by simp only [List.length_cons, List.length_nil]; omega))
    rw [List.append_nil ys]
    have s2 := same_new (o := .tup (x1 :: x2 :: x3 :: x4 :: x5 :: ys)) ht
    have s12 := s1.trans s2
    have hdp : Dp K (upd (upd H tt (.tup [.ty "list", .ty "tuple"])) t (.tup (x1 :: x2 :: x3 :: x4 :: x5 :: ys))) (.ref t) (.tuple (d1 :: d2 :: d3 :: d4 :: d5 :: fs)) :=
      .tup (SqT.of upd_same) (.cons (dp_same s12 _ _ e1) (.cons (dp_same s12 _ _ e2) (.cons (dp_same s12 _ _ e3) (.cons (dp_same s12 _ _ e4) (.cons (dp_same s12 _ _ e5) (dpAll_same s12 _ _ e6))))))
    refine ⟨_, rfl, _, _, rfl, hdp, fun H3 s3 => ⟨_, rfl, ?_⟩⟩
    cases hb : recD (.tuple (d1 :: d2 :: d3 :: d4 :: d5 :: fs)) with
    | false => exact iteT (k0 hb H3 (s12.trans s3))
    | true => exact iteF ⟨_, rfl, k1 hb t H3 (s12.trans s3) (s3 _ _ upd_same)⟩
theorem scFieldsOf : FnScope ["record"] ["record"] (defScope sFieldsOf) := ⟨rfl, rfl, rfl, by decide +kernel, rfl, by decide +kernel, by decide +kernel⟩
theorem ok_fieldsOf (F : Fun K "fields_of" "fields_of" sFieldsOf f fd) (R : RX K wrl mg aK aF) : FnOk P wrl K mg base CX0 1 f fd ["record"] (spFieldsOf K) := by
  obtain ⟨t0, hHd⟩ := R.gHd
  refine F.ok scFieldsOf (fun vs H Q E h => ?_) (fun cdv A outer s H vs Q E hr h => ?_)
  · obtain ⟨a, x1, x2, x3, x4, x5, ys, rfl, _⟩ := h
    rfl
  · obtain ⟨a, x1, x2, x3, x4, x5, ys, rfl, hs, q⟩ := h
    refine ⟨_, pss_one (ps_ret (pe_slice sl_any (pv 0) (po_some (pe_glob (v := .int 5) (by rfl) hHd ⟨_, rfl⟩)) po_none)), ?_⟩
    refine ⟨_, rfl, 5, rfl, a, _, rfl, hs, fun p H' s' hp => ?_⟩
    rw [cut_tail] at hp
    exact q p H' s' hp
theorem scAnswerOf : FnScope ["record", "order", "kind"] ["record"] (defScope sAnswerOf) := ⟨rfl, rfl, rfl, by decide +kernel, rfl, by decide +kernel, by decide +kernel⟩
theorem ok_answerOf (F : Fun K "answer_of" "answer_of" sAnswerOf f fd) : FnOk P wrl K mg base CX0 1 f fd ["record"] (spAnswerOf K) := by
  refine F.ok scAnswerOf (fun vs H Q E h => ?_) (fun cdv A outer s H vs Q E hr h => ?_)
  · obtain ⟨a, o, k, r, rfl, _⟩ := h
    rfl
  · obtain ⟨a, o, k, r, rfl, hs, q⟩ := h
    refine ⟨_, pss_cons (ps_asg (pe_slice sl_any (pv 0) po_none (po_some pe_int)) (pg_tup (by rfl) (pgs_cons (pg_name (i := 1) scAnswerOf.nd rfl (Or.inl rfl)) (pgs_cons (pg_name (i := 2) scAnswerOf.nd rfl (Or.inl rfl)) L2.pgs_nil))))
      (pss_cons (ps_if (pt_cmpR op_eq (pv 2) pe_str (nomark _)) (pss_one (ps_ret pe_non)) pss_nil)
      (pss_cons (ps_if (pt_cmpR op_in_seq (pv 2) (pe_tup (pa_cons pe_str (pa_cons pe_str pa_nil))) (by rfl)) (pss_one (ps_ret (pe_tup (pa_cons pe_str (pa_cons (pv 1) pa_nil))))) pss_nil)
      (pss_one (ps_ret (pe_tup (pa_cons pe_str (pa_cons pe_non pa_nil))))))), ?_⟩
    refine ⟨_, rfl, 2, rfl, a, _, rfl, hs, fun p H1 s1 hp => ?_⟩
    rw [cut_two] at hp
    refine ⟨p, _, rfl, hp, rfl, _, _, rfl, _, _, rfl, rfl, ?_⟩
    refine ⟨_, rfl, rfl, _, rfl, ?_⟩
    by_cases hk : k = "mark"
    · subst hk
      rw [str_eqT]
      refine iteT ?_
      exact q .non H1 s1 .non
    · rw [str_eqF hk]
      refine iteF ⟨_, rfl, by show 2 ≤ sizeLine; decide, fun tt htt => ?_⟩
      have s2 := same_new (o := .tup [.str "snap", .str "register"]) htt
      have e : inV (.str k) ((["snap", "register"] : List Str).map V.str) = strIn k ["snap", "register"] := inV_str
      refine ⟨tt, _, rfl, .inr (SqT.of upd_same), rfl, rfl, _, rfl, ?_⟩
      have e' : inV (.str k) [.str "snap", .str "register"] = strIn k ["snap", "register"] := e
      rw [e']
      cases hin : strIn k ["snap", "register"] with
      | true =>
        refine iteT ⟨_, rfl, by show 2 ≤ sizeLine; decide, fun t ht => ?_⟩
        refine q (.ref t) _ (s1.trans (s2.trans (same_new ht))) ?_
        unfold answD
        rw [if_neg hk, if_pos hin]
        exact .tup (SqT.of upd_same) (.cons (.str _) (.cons (.int _) .nil))
      | false =>
        refine iteF ⟨by show 2 ≤ sizeLine; decide, fun t ht => ?_⟩
        refine q (.ref t) _ (s1.trans (s2.trans (same_new ht))) ?_
        unfold answD
        rw [if_neg hk, if_neg (by rw [hin]; exact Bool.false_ne_true)]
        exact .tup (SqT.of upd_same) (.cons (.str _) (.cons .non .nil))
end
end Sg

set_option Elab.async false
set_option linter.all false
set_option maxRecDepth 100000
set_option maxHeartbeats 4000000
namespace Sg
open PySem PySem.Spec PyProof.Rows L2
/-! ### records and their effects, as data -/
inductive Bd
  | mark (d : PyData) | make (n z : Int) | remove (n : Int) | write (n p v : Int) | trim (n p : Int) | snap (n : Int) | drop (n s : Int) | register (n : Int)
  | leave (n : Int) (held : Bool) | reserve (n : Int) (w : Str) | release (n : Int) | preempt (n v : Int) (w : Option Str)
structure Rc where
  o : Int
  h : Int
  s : Int
  c : Int
  b : Bd
def wayD : Option Str → PyData
  | none => .none
  | some w => .str w
def kindS : Bd → Str
  | .mark _ => "mark" | .make _ _ => "make" | .remove _ => "remove" | .write _ _ _ => "write" | .trim _ _ => "trim" | .snap _ => "snap" | .drop _ _ => "drop" | .register _ => "register"
  | .leave _ _ => "leave" | .reserve _ _ => "reserve" | .release _ => "release" | .preempt _ _ _ => "preempt"
def fldD : Bd → List PyData
  | .mark d => [d] | .make n z => [.int n, .int z] | .remove n => [.int n] | .write n p v => [.int n, .int p, .int v] | .trim n p => [.int n, .int p] | .snap n => [.int n] | .drop n s => [.int n, .int s] | .register n => [.int n]
  | .leave n b => [.int n, .bool b] | .reserve n w => [.int n, .str w] | .release n => [.int n] | .preempt n v w => [.int n, .int v, wayD w]
abbrev Ef := List Key × PyData
def effB (o h : Int) : Bd → List Ef
  | .mark d => [([.inr "told", .inl h], d)]
  | .make n z => [([.inr "space", .inl n], .int z)]
  | .remove n => [([.inr "gone", .inl n], .int o)]
  | .write n p v => [([.inr "place", .inl n, .inl p], .int v)]
  | .trim n p => [([.inr "place", .inl n, .inl p], .none)]
  | .snap n => [([.inr "snap", .inl n, .inl o], .int o)]
  | .drop n s => [([.inr "snap", .inl n, .inl s], .none)]
  | .register n => [([.inr "key", .inl n, .inl h], .int o)]
  | .leave n false => [([.inr "key", .inl n, .inl h], .none)]
  | .leave n true => [([.inr "key", .inl n, .inl h], .none), ([.inr "hold", .inl n], .none)]
  | .reserve n w => [([.inr "hold", .inl n], .tuple [.int h, .str w])]
  | .release n => [([.inr "hold", .inl n], .none)]
  | .preempt n v none => [([.inr "key", .inl n, .inl v], .none)]
  | .preempt n v (some w) => [([.inr "key", .inl n, .inl v], .none), ([.inr "hold", .inl n], .tuple [.int h, .str w])]
def effH (r : Rc) : Ef := ([.inr "host", .inl r.h], .tuple [.int r.s, .int r.c, answD (kindS r.b) r.o])
def effR (r : Rc) : List Ef := effH r :: effB r.o r.h r.b
def RecAt (K : PySem.W.Frag) (H : Hp) (t : Addr) (r : Rc) : Prop := ∃ ys, SqT K H t (.int r.o :: .str (kindS r.b) :: .int r.h :: .int r.s :: .int r.c :: ys) ∧ DpAll K H ys (fldD r.b)
def EffAt (K : PySem.W.Frag) (H : Hp) (p : Addr) (e : Ef) : Prop := ∃ t v, H p = some (.tup [.ref t, v]) ∧ H t = some (.tup (e.1.map kV)) ∧ Dp K H v e.2
theorem EffAt.same {K : PySem.W.Frag} {H H' : Hp} {p : Addr} {e : Ef} (h : EffAt K H p e) (s : Same H H') : EffAt K H' p e := by
  obtain ⟨t, v, a, b, c⟩ := h
  exact ⟨t, v, s _ _ a, s _ _ b, dp_same s _ _ c⟩
theorem RecAt.same {K : PySem.W.Frag} {H H' : Hp} {t : Addr} {r : Rc} (h : RecAt K H t r) (s : Same H H') : RecAt K H' t r := by
  obtain ⟨ys, a, b⟩ := h
  exact ⟨ys, SqT_same s a, dpAll_same s _ _ b⟩
theorem Paired.imp2 {α β : Type} {F G : α → β → Prop} (f : ∀ a b, F a b → G a b) : ∀ {l : List α} {m : List β}, Paired F l m → Paired G l m
  | _, _, .nil => .nil
  | _, _, .cons r t => .cons (f _ _ r) (Paired.imp2 f t)
theorem dp_int {K : PySem.W.Frag} {H : Hp} {x : V} {n : Int} (h : Dp K H x (.int n)) : x = .int n := by cases h; rfl
theorem dp_strv {K : PySem.W.Frag} {H : Hp} {x : V} {n : Str} (h : Dp K H x (.str n)) : x = .str n := by cases h; rfl
theorem dp_bool {K : PySem.W.Frag} {H : Hp} {x : V} {n : Bool} (h : Dp K H x (.bool n)) : x = .bl n := by cases h; rfl
theorem dp_none {K : PySem.W.Frag} {H : Hp} {x : V} (h : Dp K H x .none) : x = .non := by cases h; rfl
/-- one effect (topic, value) made anew -/
theorem eff_one {K : PySem.W.Frag} {σ : L2.St} {H : Hp} {tk : TA} {tv : TE} {k : List Key} {d : PyData} {Q : VK} (hn : k.length ≤ 3) (hk : ∀ R : List V → Hp → Prop, R (k.map kV) H → tk σ H R)
    (hv : ∀ H' (R : VK), Same H H' → (∀ H'' v, Same H' H'' → Dp K H'' v d → R v H'') → tv σ H' R) (q : ∀ p H', Same H H' → EffAt K H' p (k, d) → Q (.ref p) H') : tTup (tCons (tTup tk) (tCons tv tNil)) σ H Q := by
  refine hk _ ⟨by rw [List.length_map]; exact Nat.le_of_lt (small1000 (by omega)), fun t ht => ?_⟩
  have s1 := same_new (o := .tup (k.map kV)) ht
  refine hv _ _ s1 fun H2 v s2 hd => ⟨by show 2 ≤ sizeLine; decide, fun p hp => ?_⟩
  have s3 := same_new (o := .tup [V.ref t, v]) hp
  exact q p _ (s1.trans (s2.trans s3)) ⟨t, v, upd_same, s3 _ _ (s2 _ _ upd_same), dp_same s3 _ _ hd⟩
theorem eff_list1 {K : PySem.W.Frag} {σ : L2.St} {H : Hp} {te : TE} {e : Ef} {Q : VK} (h : ∀ R : VK, (∀ p H', Same H H' → EffAt K H' p e → R (.ref p) H') → te σ H R) (q : ∀ l (ps : List Addr) H', Same H H' → H' l = some (.lst (ps.map V.ref)) → Paired (EffAt K H') ps [e] → Q (.ref l) H') :
    tLst (tCons te tNil) σ H Q := by
  refine h _ fun p H1 s1 e1 => ⟨by show 1 ≤ sizeLine; decide, fun l hl => ?_⟩
  have s2 := same_new (o := .lst [V.ref p]) hl
  exact q l [p] _ (s1.trans s2) upd_same (.cons (e1.same s2) .nil)
theorem eff_list2 {K : PySem.W.Frag} {σ : L2.St} {H : Hp} {te tf : TE} {e f : Ef} {Q : VK} (h : ∀ R : VK, (∀ p H', Same H H' → EffAt K H' p e → R (.ref p) H') → te σ H R) (h2 : ∀ H1 (R : VK), Same H H1 → (∀ p H', Same H1 H' → EffAt K H' p f → R (.ref p) H') → tf σ H1 R)
    (q : ∀ l (ps : List Addr) H', Same H H' → H' l = some (.lst (ps.map V.ref)) → Paired (EffAt K H') ps [e, f] → Q (.ref l) H') : tLst (tCons te (tCons tf tNil)) σ H Q := by
  refine h _ fun p H1 s1 e1 => h2 _ _ s1 fun p2 H2 s2 e2 => ⟨by show 2 ≤ sizeLine; decide, fun l hl => ?_⟩
  have s3 := same_new (o := .lst [V.ref p, V.ref p2]) hl
  exact q l [p, p2] _ (s1.trans (s2.trans s3)) upd_same (.cons (e1.same (s2.trans s3)) (.cons (e2.same s3) .nil))
theorem mS_hit {x k : Str} {H : Hp} {Q : Option (List (Nat × V)) → Prop} (e : k = x) (h : Q (some [])) : mStr x (.str k) H Q := ⟨k, rfl, by rw [if_pos e]; exact h⟩
theorem mB_hit {b : Bool} {H : Hp} {Q : Option (List (Nat × V)) → Prop} (h : Q (some [])) : mBool b (.bl b) H Q := ⟨b, rfl, by rw [if_pos rfl]; exact h⟩
theorem mB_miss {b c : Bool} {H : Hp} {Q : Option (List (Nat × V)) → Prop} (e : ¬ c = b) (h : Q none) : mBool b (.bl c) H Q := ⟨c, rfl, by rw [if_neg e]; exact h⟩
theorem mN_hit {H : Hp} {Q : Option (List (Nat × V)) → Prop} (h : Q (some [])) : mNone .non H Q := by unfold mNone; rw [if_pos rfl]; exact h
theorem mN_miss {v : V} {H : Hp} {Q : Option (List (Nat × V)) → Prop} (e : ¬ v = .non) (h : Q none) : mNone v H Q := by unfold mNone; rw [if_neg e]; exact h
theorem fld_len (b : Bd) : (fldD b).length ≤ 3 := by cases b <;> simp [fldD]
/-! ### skipping a case -/
theorem skip {K : PySem.W.Frag} {n : Nat} {x k : Str} {u : TPts} {tb : TS} {rest : TCs} {a : Addr} {ys : List V} {D : Ends} {σ : L2.St} {H : Hp} (hs : SqT K H a (.str k :: ys)) (hne : ¬ k = x) (h : rest (.ref a) D σ H) : cCons (mSeq K n (mCons (mStr x) u)) tb rest (.ref a) D σ H := by
  refine ⟨a, _, rfl, hs, fun _ => ⟨_, _, rfl, k, rfl, ?_⟩, fun _ => h⟩
  rw [if_neg hne]; exact h
def spEffKind (K : PySem.W.Frag) : Sp := fun vs H Q _ => ∃ (o h : Int) (p : Addr) (b : Bd) (ys : List V), vs = [.int o, .str (kindS b), .int h, .ref p] ∧ SqT K H p ys ∧ DpAll K H ys (fldD b) ∧
  ∀ l (ps : List Addr) H', Same H H' → H' l = some (.lst (ps.map V.ref)) → Paired (EffAt K H') ps (effB o h b) → Q (.ref l) H'
def spEffects (K : PySem.W.Frag) : Sp := fun vs H Q _ => ∃ (t : Addr) (r : Rc), vs = [.ref t] ∧ RecAt K H t r ∧
  ∀ l (ps : List Addr) H', Same H H' → H' l = some (.lst (ps.map V.ref)) → Paired (EffAt K H') ps (effR r) → Q (.ref l) H'
section
variable {P : Program} {wrl : World} {K : PySem.W.Frag} {mg : Str → Option Value} {base : Heap} {f fA fE fF aK aF : Addr} {fd fdA fdE fdF : FuncData}
abbrev EKN : List Str := ["order","kind","host","fields","told","namespace","size","place","content","snapshot","way","victim"]
theorem scEffKind : FnScope EKN ["order", "kind", "host", "fields"] (defScope sEffKind) := ⟨rfl, rfl, rfl, by decide +kernel, rfl, by decide +kernel, by decide +kernel⟩
theorem ok_effKind (F : Fun K "_effects_of_kind" "_effects_of_kind" sEffKind f fd) : FnOk P wrl K mg base CX0 1 f fd ["order", "kind", "host", "fields"] (spEffKind K) := by
  refine F.ok scEffKind (fun vs H Q E h => ?_) (fun cdv A outer s H vs Q E hr h => ?_)
  · obtain ⟨o, h, p, b, ys, rfl, _⟩ := h
    rfl
  · obtain ⟨o, h, p, b, ys, rfl, hp, hd, q⟩ := h
    refine ⟨_, (pss_one (ps_match (pe_tup (pa_cons (pv 1) (StX.pa_star (pv 3) pa_nil))) (pcs_cons scEffKind.nd (mp_seq (n := 2) rfl (mps_cons mp_str (mps_cons (mp_cap (i := 4) rfl (Or.inl rfl)) mps_nil)))
        (pss_one (ps_ret (pe_lst (pa_cons (pe_tup (pa_cons (pe_tup (pa_cons pe_str (pa_cons (pv 2) pa_nil))) (pa_cons (pv 4) pa_nil))) pa_nil))))
        (pcs_cons scEffKind.nd (mp_seq (n := 3) rfl (mps_cons mp_str (mps_cons (mp_cap (i := 5) rfl (Or.inl rfl)) (mps_cons (mp_cap (i := 6) rfl (Or.inl rfl)) mps_nil))))
        (pss_one (ps_ret (pe_lst (pa_cons (pe_tup (pa_cons (pe_tup (pa_cons pe_str (pa_cons (pv 5) pa_nil))) (pa_cons (pv 6) pa_nil))) pa_nil))))
        (pcs_cons scEffKind.nd (mp_seq (n := 2) rfl (mps_cons mp_str (mps_cons (mp_cap (i := 5) rfl (Or.inl rfl)) mps_nil)))
        (pss_one (ps_ret (pe_lst (pa_cons (pe_tup (pa_cons (pe_tup (pa_cons pe_str (pa_cons (pv 5) pa_nil))) (pa_cons (pv 0) pa_nil))) pa_nil))))
        (pcs_cons scEffKind.nd (mp_seq (n := 4) rfl (mps_cons mp_str (mps_cons (mp_cap (i := 5) rfl (Or.inl rfl)) (mps_cons (mp_cap (i := 7) rfl (Or.inl rfl)) (mps_cons (mp_cap (i := 8) rfl (Or.inl rfl)) mps_nil)))))
        (pss_one (ps_ret (pe_lst (pa_cons (pe_tup (pa_cons (pe_tup (pa_cons pe_str (pa_cons (pv 5) (pa_cons (pv 7) pa_nil)))) (pa_cons (pv 8) pa_nil))) pa_nil))))
        (pcs_cons scEffKind.nd (mp_seq (n := 3) rfl (mps_cons mp_str (mps_cons (mp_cap (i := 5) rfl (Or.inl rfl)) (mps_cons (mp_cap (i := 7) rfl (Or.inl rfl)) mps_nil))))
        (pss_one (ps_ret (pe_lst (pa_cons (pe_tup (pa_cons (pe_tup (pa_cons pe_str (pa_cons (pv 5) (pa_cons (pv 7) pa_nil)))) (pa_cons pe_non pa_nil))) pa_nil))))
        (pcs_cons scEffKind.nd (mp_seq (n := 2) rfl (mps_cons mp_str (mps_cons (mp_cap (i := 5) rfl (Or.inl rfl)) mps_nil)))
        (pss_one (ps_ret (pe_lst (pa_cons (pe_tup (pa_cons (pe_tup (pa_cons pe_str (pa_cons (pv 5) (pa_cons (pv 0) pa_nil)))) (pa_cons (pv 0) pa_nil))) pa_nil))))
        (pcs_cons scEffKind.nd (mp_seq (n := 3) rfl (mps_cons mp_str (mps_cons (mp_cap (i := 5) rfl (Or.inl rfl)) (mps_cons (mp_cap (i := 9) rfl (Or.inl rfl)) mps_nil))))
        (pss_one (ps_ret (pe_lst (pa_cons (pe_tup (pa_cons (pe_tup (pa_cons pe_str (pa_cons (pv 5) (pa_cons (pv 9) pa_nil)))) (pa_cons pe_non pa_nil))) pa_nil))))
        (pcs_cons scEffKind.nd (mp_seq (n := 2) rfl (mps_cons mp_str (mps_cons (mp_cap (i := 5) rfl (Or.inl rfl)) mps_nil)))
        (pss_one (ps_ret (pe_lst (pa_cons (pe_tup (pa_cons (pe_tup (pa_cons pe_str (pa_cons (pv 5) (pa_cons (pv 2) pa_nil)))) (pa_cons (pv 0) pa_nil))) pa_nil))))
        (pcs_cons scEffKind.nd (mp_seq (n := 3) rfl (mps_cons mp_str (mps_cons (mp_cap (i := 5) rfl (Or.inl rfl)) (mps_cons mp_bool mps_nil))))
        (pss_one (ps_ret (pe_lst (pa_cons (pe_tup (pa_cons (pe_tup (pa_cons pe_str (pa_cons (pv 5) (pa_cons (pv 2) pa_nil)))) (pa_cons pe_non pa_nil))) pa_nil))))
        (pcs_cons scEffKind.nd (mp_seq (n := 3) rfl (mps_cons mp_str (mps_cons (mp_cap (i := 5) rfl (Or.inl rfl)) (mps_cons mp_bool mps_nil))))
        (pss_one (ps_ret (pe_lst (pa_cons (pe_tup (pa_cons (pe_tup (pa_cons pe_str (pa_cons (pv 5) (pa_cons (pv 2) pa_nil)))) (pa_cons pe_non pa_nil))) (pa_cons (pe_tup (pa_cons (pe_tup (pa_cons pe_str (pa_cons (pv 5) pa_nil))) (pa_cons pe_non pa_nil))) pa_nil)))))
        (pcs_cons scEffKind.nd (mp_seq (n := 3) rfl (mps_cons mp_str (mps_cons (mp_cap (i := 5) rfl (Or.inl rfl)) (mps_cons (mp_cap (i := 10) rfl (Or.inl rfl)) mps_nil))))
        (pss_one (ps_ret (pe_lst (pa_cons (pe_tup (pa_cons (pe_tup (pa_cons pe_str (pa_cons (pv 5) pa_nil))) (pa_cons (pe_tup (pa_cons (pv 2) (pa_cons (pv 10) pa_nil))) pa_nil))) pa_nil))))
        (pcs_cons scEffKind.nd (mp_seq (n := 2) rfl (mps_cons mp_str (mps_cons (mp_cap (i := 5) rfl (Or.inl rfl)) mps_nil)))
        (pss_one (ps_ret (pe_lst (pa_cons (pe_tup (pa_cons (pe_tup (pa_cons pe_str (pa_cons (pv 5) pa_nil))) (pa_cons pe_non pa_nil))) pa_nil))))
        (pcs_cons scEffKind.nd (mp_seq (n := 4) rfl (mps_cons mp_str (mps_cons (mp_cap (i := 5) rfl (Or.inl rfl)) (mps_cons (mp_cap (i := 11) rfl (Or.inl rfl)) (mps_cons mp_none mps_nil)))))
        (pss_one (ps_ret (pe_lst (pa_cons (pe_tup (pa_cons (pe_tup (pa_cons pe_str (pa_cons (pv 5) (pa_cons (pv 11) pa_nil)))) (pa_cons pe_non pa_nil))) pa_nil))))
        (pcs_cons scEffKind.nd (mp_seq (n := 4) rfl (mps_cons mp_str (mps_cons (mp_cap (i := 5) rfl (Or.inl rfl)) (mps_cons (mp_cap (i := 11) rfl (Or.inl rfl)) (mps_cons (mp_cap (i := 10) rfl (Or.inl rfl)) mps_nil)))))
        (pss_one (ps_ret (pe_lst (pa_cons (pe_tup (pa_cons (pe_tup (pa_cons pe_str (pa_cons (pv 5) (pa_cons (pv 11) pa_nil)))) (pa_cons pe_non pa_nil))) (pa_cons (pe_tup (pa_cons (pe_tup (pa_cons pe_str (pa_cons (pv 5) pa_nil))) (pa_cons (pe_tup (pa_cons (pv 2) (pa_cons (pv 10) pa_nil))) pa_nil))) pa_nil)))))
        pcs_nil)))))))))))))))), ?_⟩
    refine ⟨_, rfl, _, rfl, p, ys, rfl, .inl hp, Nat.le_of_lt (small1000 (by have := fld_len b; have := dpAll_len hd; simp only [List.append_nil, List.length_cons]; omega)), fun t ht => ?_⟩
    rw [List.append_nil]
    have s1 := same_new (o := .tup (.str (kindS b) :: ys)) ht
    have hs : SqT K (upd H t (.tup (.str (kindS b) :: ys))) t (.str (kindS b) :: ys) := SqT.of upd_same
    generalize upd H t (.tup (.str (kindS b) :: ys)) = H1 at s1 hs
    show cCons _ _ _ _ _ _ _
    cases b with
    | mark d =>
      obtain ⟨x1, r1, rfl, e1, b1⟩ := dpAll_cons hd
      obtain rfl := dpAll_nil b1
      refine ⟨t, _, rfl, hs, fun _ => ⟨_, _, rfl, mS_hit rfl ?_⟩, fun z => absurd rfl z⟩
      refine ⟨_, _, rfl, ?_⟩
      exact eff_list1 (fun R r => eff_one (by show 2 ≤ 3; decide) (fun S z => ⟨_, rfl, z⟩) (fun H' S sm z => ⟨_, rfl, z _ _ (Same.refl _) (dp_same (s1.trans sm) _ _ e1)⟩) r) (fun l ps H' s' hl pr => q l ps H' (s1.trans s') hl pr)
    | make n z =>
      obtain ⟨x1, r1, rfl, e1, b1⟩ := dpAll_cons hd
      obtain rfl := dp_int e1
      obtain ⟨x2, r2, rfl, e2, b2⟩ := dpAll_cons b1
      obtain rfl := dp_int e2
      obtain rfl := dpAll_nil b2
      refine skip hs (by dsimp only [kindS]; decide) ?_
      refine ⟨t, _, rfl, hs, fun _ => ⟨_, _, rfl, mS_hit rfl ?_⟩, fun z => absurd rfl z⟩
      refine ⟨_, _, rfl, _, _, rfl, ?_⟩
      exact eff_list1 (fun R r => eff_one (by show 2 ≤ 3; decide) (fun S z => ⟨_, rfl, z⟩) (fun H' S sm z => ⟨_, rfl, z _ _ (Same.refl _) (.int _)⟩) r) (fun l ps H' s' hl pr => q l ps H' (s1.trans s') hl pr)
    | remove n =>
      obtain ⟨x1, r1, rfl, e1, b1⟩ := dpAll_cons hd
      obtain rfl := dp_int e1
      obtain rfl := dpAll_nil b1
      refine skip hs (by dsimp only [kindS]; decide) ?_
      refine skip hs (by dsimp only [kindS]; decide) ?_
      refine ⟨t, _, rfl, hs, fun _ => ⟨_, _, rfl, mS_hit rfl ?_⟩, fun z => absurd rfl z⟩
      refine ⟨_, _, rfl, ?_⟩
      exact eff_list1 (fun R r => eff_one (by show 2 ≤ 3; decide) (fun S z => ⟨_, rfl, z⟩) (fun H' S sm z => ⟨_, rfl, z _ _ (Same.refl _) (.int _)⟩) r) (fun l ps H' s' hl pr => q l ps H' (s1.trans s') hl pr)
    | write n p v =>
      obtain ⟨x1, r1, rfl, e1, b1⟩ := dpAll_cons hd
      obtain rfl := dp_int e1
      obtain ⟨x2, r2, rfl, e2, b2⟩ := dpAll_cons b1
      obtain rfl := dp_int e2
      obtain ⟨x3, r3, rfl, e3, b3⟩ := dpAll_cons b2
      obtain rfl := dp_int e3
      obtain rfl := dpAll_nil b3
      refine skip hs (by dsimp only [kindS]; decide) ?_
      refine skip hs (by dsimp only [kindS]; decide) ?_
      refine skip hs (by dsimp only [kindS]; decide) ?_
      refine ⟨t, _, rfl, hs, fun _ => ⟨_, _, rfl, mS_hit rfl ?_⟩, fun z => absurd rfl z⟩
      refine ⟨_, _, rfl, _, _, rfl, _, _, rfl, ?_⟩
      exact eff_list1 (fun R r => eff_one (by show 3 ≤ 3; decide) (fun S z => ⟨_, rfl, _, rfl, z⟩) (fun H' S sm z => ⟨_, rfl, z _ _ (Same.refl _) (.int _)⟩) r) (fun l ps H' s' hl pr => q l ps H' (s1.trans s') hl pr)
    | trim n p =>
      obtain ⟨x1, r1, rfl, e1, b1⟩ := dpAll_cons hd
      obtain rfl := dp_int e1
      obtain ⟨x2, r2, rfl, e2, b2⟩ := dpAll_cons b1
      obtain rfl := dp_int e2
      obtain rfl := dpAll_nil b2
      refine skip hs (by dsimp only [kindS]; decide) ?_
      refine skip hs (by dsimp only [kindS]; decide) ?_
      refine skip hs (by dsimp only [kindS]; decide) ?_
      refine skip hs (by dsimp only [kindS]; decide) ?_
      refine ⟨t, _, rfl, hs, fun _ => ⟨_, _, rfl, mS_hit rfl ?_⟩, fun z => absurd rfl z⟩
      refine ⟨_, _, rfl, _, _, rfl, ?_⟩
      exact eff_list1 (fun R r => eff_one (by show 3 ≤ 3; decide) (fun S z => ⟨_, rfl, _, rfl, z⟩) (fun H' S sm z => z _ _ (Same.refl _) .non) r) (fun l ps H' s' hl pr => q l ps H' (s1.trans s') hl pr)
    | snap n =>
      obtain ⟨x1, r1, rfl, e1, b1⟩ := dpAll_cons hd
      obtain rfl := dp_int e1
      obtain rfl := dpAll_nil b1
      refine skip hs (by dsimp only [kindS]; decide) ?_
      refine skip hs (by dsimp only [kindS]; decide) ?_
      refine skip hs (by dsimp only [kindS]; decide) ?_
      refine skip hs (by dsimp only [kindS]; decide) ?_
      refine skip hs (by dsimp only [kindS]; decide) ?_
      refine ⟨t, _, rfl, hs, fun _ => ⟨_, _, rfl, mS_hit rfl ?_⟩, fun z => absurd rfl z⟩
      refine ⟨_, _, rfl, ?_⟩
      exact eff_list1 (fun R r => eff_one (by show 3 ≤ 3; decide) (fun S z => ⟨_, rfl, _, rfl, z⟩) (fun H' S sm z => ⟨_, rfl, z _ _ (Same.refl _) (.int _)⟩) r) (fun l ps H' s' hl pr => q l ps H' (s1.trans s') hl pr)
    | drop n s =>
      obtain ⟨x1, r1, rfl, e1, b1⟩ := dpAll_cons hd
      obtain rfl := dp_int e1
      obtain ⟨x2, r2, rfl, e2, b2⟩ := dpAll_cons b1
      obtain rfl := dp_int e2
      obtain rfl := dpAll_nil b2
      refine skip hs (by dsimp only [kindS]; decide) ?_
      refine skip hs (by dsimp only [kindS]; decide) ?_
      refine skip hs (by dsimp only [kindS]; decide) ?_
      refine skip hs (by dsimp only [kindS]; decide) ?_
      refine skip hs (by dsimp only [kindS]; decide) ?_
      refine skip hs (by dsimp only [kindS]; decide) ?_
      refine ⟨t, _, rfl, hs, fun _ => ⟨_, _, rfl, mS_hit rfl ?_⟩, fun z => absurd rfl z⟩
      refine ⟨_, _, rfl, _, _, rfl, ?_⟩
      exact eff_list1 (fun R r => eff_one (by show 3 ≤ 3; decide) (fun S z => ⟨_, rfl, _, rfl, z⟩) (fun H' S sm z => z _ _ (Same.refl _) .non) r) (fun l ps H' s' hl pr => q l ps H' (s1.trans s') hl pr)
    | register n =>
      obtain ⟨x1, r1, rfl, e1, b1⟩ := dpAll_cons hd
      obtain rfl := dp_int e1
      obtain rfl := dpAll_nil b1
      refine skip hs (by dsimp only [kindS]; decide) ?_
      refine skip hs (by dsimp only [kindS]; decide) ?_
      refine skip hs (by dsimp only [kindS]; decide) ?_
      refine skip hs (by dsimp only [kindS]; decide) ?_
      refine skip hs (by dsimp only [kindS]; decide) ?_
      refine skip hs (by dsimp only [kindS]; decide) ?_
      refine skip hs (by dsimp only [kindS]; decide) ?_
      refine ⟨t, _, rfl, hs, fun _ => ⟨_, _, rfl, mS_hit rfl ?_⟩, fun z => absurd rfl z⟩
      refine ⟨_, _, rfl, ?_⟩
      exact eff_list1 (fun R r => eff_one (by show 3 ≤ 3; decide) (fun S z => ⟨_, rfl, _, rfl, z⟩) (fun H' S sm z => ⟨_, rfl, z _ _ (Same.refl _) (.int _)⟩) r) (fun l ps H' s' hl pr => q l ps H' (s1.trans s') hl pr)
    | leave n held =>
      obtain ⟨x1, r1, rfl, e1, b1⟩ := dpAll_cons hd
      obtain rfl := dp_int e1
      obtain ⟨x2, r2, rfl, e2, b2⟩ := dpAll_cons b1
      obtain rfl := dp_bool e2
      obtain rfl := dpAll_nil b2
      refine skip hs (by dsimp only [kindS]; decide) ?_
      refine skip hs (by dsimp only [kindS]; decide) ?_
      refine skip hs (by dsimp only [kindS]; decide) ?_
      refine skip hs (by dsimp only [kindS]; decide) ?_
      refine skip hs (by dsimp only [kindS]; decide) ?_
      refine skip hs (by dsimp only [kindS]; decide) ?_
      refine skip hs (by dsimp only [kindS]; decide) ?_
      refine skip hs (by dsimp only [kindS]; decide) ?_
      cases held with
      | false =>
        refine ⟨t, _, rfl, hs, fun _ => ⟨_, _, rfl, mS_hit rfl ?_⟩, fun z => absurd rfl z⟩
        refine ⟨_, _, rfl, _, _, rfl, mB_hit ?_⟩
        exact eff_list1 (fun R r => eff_one (k := [.inr "key", .inl n, .inl h]) (d := .none) (by show 3 ≤ 3; decide) (fun S z => ⟨_, rfl, _, rfl, z⟩) (fun H' S sm z => z _ _ (Same.refl _) .non) r) (fun l ps H' s' hl pr => q l ps H' (s1.trans s') hl pr)
      | true =>
        refine ⟨t, _, rfl, hs, fun _ => ⟨_, _, rfl, mS_hit rfl ?_⟩, fun z => absurd rfl z⟩
        refine ⟨_, _, rfl, _, _, rfl, mB_miss (by decide) ?_⟩
        refine ⟨t, _, rfl, hs, fun _ => ⟨_, _, rfl, mS_hit rfl ?_⟩, fun z => absurd rfl z⟩
        refine ⟨_, _, rfl, _, _, rfl, mB_hit ?_⟩
        exact eff_list2 (fun R r => eff_one (k := [.inr "key", .inl n, .inl h]) (d := .none) (by show 3 ≤ 3; decide) (fun S z => ⟨_, rfl, _, rfl, z⟩) (fun H' S sm z => z _ _ (Same.refl _) .non) r) (fun H1 R s2 r => eff_one (k := [.inr "hold", .inl n]) (d := .none) (by show 2 ≤ 3; decide) (fun S z => ⟨_, rfl, z⟩) (fun H' S sm z => z _ _ (Same.refl _) .non) r) (fun l ps H' s' hl pr => q l ps H' (s1.trans s') hl pr)
    | reserve n w =>
      obtain ⟨x1, r1, rfl, e1, b1⟩ := dpAll_cons hd
      obtain rfl := dp_int e1
      obtain ⟨x2, r2, rfl, e2, b2⟩ := dpAll_cons b1
      obtain rfl := dp_strv e2
      obtain rfl := dpAll_nil b2
      refine skip hs (by dsimp only [kindS]; decide) ?_
      refine skip hs (by dsimp only [kindS]; decide) ?_
      refine skip hs (by dsimp only [kindS]; decide) ?_
      refine skip hs (by dsimp only [kindS]; decide) ?_
      refine skip hs (by dsimp only [kindS]; decide) ?_
      refine skip hs (by dsimp only [kindS]; decide) ?_
      refine skip hs (by dsimp only [kindS]; decide) ?_
      refine skip hs (by dsimp only [kindS]; decide) ?_
      refine skip hs (by dsimp only [kindS]; decide) ?_
      refine skip hs (by dsimp only [kindS]; decide) ?_
      refine ⟨t, _, rfl, hs, fun _ => ⟨_, _, rfl, mS_hit rfl ?_⟩, fun z => absurd rfl z⟩
      refine ⟨_, _, rfl, _, _, rfl, ?_⟩
      exact eff_list1 (fun R r => eff_one (by show 2 ≤ 3; decide) (fun S z => ⟨_, rfl, z⟩) (fun H' S sm z => ⟨_, rfl, _, rfl, by show 2 ≤ sizeLine; decide, fun u hu => z _ _ (same_new hu) (.tup (SqT.of upd_same) (.cons (.int _) (.cons (.str _) .nil)))⟩) r) (fun l ps H' s' hl pr => q l ps H' (s1.trans s') hl pr)
    | release n =>
      obtain ⟨x1, r1, rfl, e1, b1⟩ := dpAll_cons hd
      obtain rfl := dp_int e1
      obtain rfl := dpAll_nil b1
      refine skip hs (by dsimp only [kindS]; decide) ?_
      refine skip hs (by dsimp only [kindS]; decide) ?_
      refine skip hs (by dsimp only [kindS]; decide) ?_
      refine skip hs (by dsimp only [kindS]; decide) ?_
      refine skip hs (by dsimp only [kindS]; decide) ?_
      refine skip hs (by dsimp only [kindS]; decide) ?_
      refine skip hs (by dsimp only [kindS]; decide) ?_
      refine skip hs (by dsimp only [kindS]; decide) ?_
      refine skip hs (by dsimp only [kindS]; decide) ?_
      refine skip hs (by dsimp only [kindS]; decide) ?_
      refine skip hs (by dsimp only [kindS]; decide) ?_
      refine ⟨t, _, rfl, hs, fun _ => ⟨_, _, rfl, mS_hit rfl ?_⟩, fun z => absurd rfl z⟩
      refine ⟨_, _, rfl, ?_⟩
      exact eff_list1 (fun R r => eff_one (by show 2 ≤ 3; decide) (fun S z => ⟨_, rfl, z⟩) (fun H' S sm z => z _ _ (Same.refl _) .non) r) (fun l ps H' s' hl pr => q l ps H' (s1.trans s') hl pr)
    | preempt n v w =>
      cases w with
      | none =>
        obtain ⟨x1, r1, rfl, e1, b1⟩ := dpAll_cons hd
        obtain rfl := dp_int e1
        obtain ⟨x2, r2, rfl, e2, b2⟩ := dpAll_cons b1
        obtain rfl := dp_int e2
        obtain ⟨x3, r3, rfl, e3, b3⟩ := dpAll_cons b2
        obtain rfl := dp_none e3
        obtain rfl := dpAll_nil b3
        refine skip hs (by dsimp only [kindS]; decide) ?_
        refine skip hs (by dsimp only [kindS]; decide) ?_
        refine skip hs (by dsimp only [kindS]; decide) ?_
        refine skip hs (by dsimp only [kindS]; decide) ?_
        refine skip hs (by dsimp only [kindS]; decide) ?_
        refine skip hs (by dsimp only [kindS]; decide) ?_
        refine skip hs (by dsimp only [kindS]; decide) ?_
        refine skip hs (by dsimp only [kindS]; decide) ?_
        refine skip hs (by dsimp only [kindS]; decide) ?_
        refine skip hs (by dsimp only [kindS]; decide) ?_
        refine skip hs (by dsimp only [kindS]; decide) ?_
        refine skip hs (by dsimp only [kindS]; decide) ?_
        refine ⟨t, _, rfl, hs, fun _ => ⟨_, _, rfl, mS_hit rfl ?_⟩, fun z => absurd rfl z⟩
        refine ⟨_, _, rfl, _, _, rfl, _, _, rfl, mN_hit ?_⟩
        exact eff_list1 (fun R r => eff_one (k := [.inr "key", .inl n, .inl v]) (d := .none) (by show 3 ≤ 3; decide) (fun S z => ⟨_, rfl, _, rfl, z⟩) (fun H' S sm z => z _ _ (Same.refl _) .non) r) (fun l ps H' s' hl pr => q l ps H' (s1.trans s') hl pr)
      | some w =>
        obtain ⟨x1, r1, rfl, e1, b1⟩ := dpAll_cons hd
        obtain rfl := dp_int e1
        obtain ⟨x2, r2, rfl, e2, b2⟩ := dpAll_cons b1
        obtain rfl := dp_int e2
        obtain ⟨x3, r3, rfl, e3, b3⟩ := dpAll_cons b2
        obtain rfl := dp_strv e3
        obtain rfl := dpAll_nil b3
        refine skip hs (by dsimp only [kindS]; decide) ?_
        refine skip hs (by dsimp only [kindS]; decide) ?_
        refine skip hs (by dsimp only [kindS]; decide) ?_
        refine skip hs (by dsimp only [kindS]; decide) ?_
        refine skip hs (by dsimp only [kindS]; decide) ?_
        refine skip hs (by dsimp only [kindS]; decide) ?_
        refine skip hs (by dsimp only [kindS]; decide) ?_
        refine skip hs (by dsimp only [kindS]; decide) ?_
        refine skip hs (by dsimp only [kindS]; decide) ?_
        refine skip hs (by dsimp only [kindS]; decide) ?_
        refine skip hs (by dsimp only [kindS]; decide) ?_
        refine skip hs (by dsimp only [kindS]; decide) ?_
        refine ⟨t, _, rfl, hs, fun _ => ⟨_, _, rfl, mS_hit rfl ?_⟩, fun z => absurd rfl z⟩
        refine ⟨_, _, rfl, _, _, rfl, _, _, rfl, mN_miss (fun z => nomatch z) ?_⟩
        refine ⟨t, _, rfl, hs, fun _ => ⟨_, _, rfl, mS_hit rfl ?_⟩, fun z => absurd rfl z⟩
        refine ⟨_, _, rfl, _, _, rfl, _, _, rfl, ?_⟩
        exact eff_list2 (fun R r => eff_one (k := [.inr "key", .inl n, .inl v]) (d := .none) (by show 3 ≤ 3; decide) (fun S z => ⟨_, rfl, _, rfl, z⟩) (fun H' S sm z => z _ _ (Same.refl _) .non) r) (fun H1 R s2 r => eff_one (k := [.inr "hold", .inl n]) (d := .tuple [.int h, .str w]) (by show 2 ≤ 3; decide) (fun S z => ⟨_, rfl, z⟩) (fun H' S sm z => ⟨_, rfl, _, rfl, by show 2 ≤ sizeLine; decide, fun u hu => z _ _ (same_new hu) (.tup (SqT.of upd_same) (.cons (.int _) (.cons (.str _) .nil)))⟩) r) (fun l ps H' s' hl pr => q l ps H' (s1.trans s') hl pr)
end
end Sg

set_option Elab.async false
set_option linter.all false
set_option maxRecDepth 100000
set_option maxHeartbeats 4000000
namespace Sg
open PySem PySem.Spec PyProof.Rows L2
/-- a list of effects; one effect -/
def LE (K : PySem.W.Frag) (te : TE) (σ : L2.St) (H : Hp) (es : List Ef) : Prop := ∀ Q : VK, (∀ l (ps : List Addr) H', Same H H' → H' l = some (.lst (ps.map V.ref)) → Paired (EffAt K H') ps es → Q (.ref l) H') → te σ H Q
def EE (K : PySem.W.Frag) (te : TE) (σ : L2.St) (H : Hp) (e : Ef) : Prop := ∀ Q : VK, (∀ p H', Same H H' → EffAt K H' p e → Q (.ref p) H') → te σ H Q
section
variable {K : PySem.W.Frag} {σ : L2.St} {H : Hp} {te ta tb : TE} {es fs : List Ef} {e : Ef}
theorem LE.one (h : EE K te σ H e) : LE K (tLst (tCons te tNil)) σ H [e] := fun Q q => eff_list1 h q
theorem LE.var {i : Nat} {l : Addr} {ps : List Addr} (hσ : σ[i]? = some (some (.ref l))) (hl : H l = some (.lst (ps.map V.ref))) (pr : Paired (EffAt K H) ps es) : LE K (tVar i) σ H es := fun Q q => ⟨_, hσ, q l ps H (Same.refl H) hl pr⟩
theorem paired_append {α β : Type} {F : α → β → Prop} : ∀ {a c : List α} {b d : List β}, Paired F a b → Paired F c d → Paired F (a ++ c) (b ++ d)
  | _, _, _, _, .nil, h => h
  | _, _, _, _, .cons r t, h => .cons r (paired_append t h)
theorem LE.cat (h1 : LE K ta σ H es) (h2 : ∀ H', Same H H' → LE K tb σ H' fs) (hn : es.length + fs.length ≤ 100) : LE K (tOp rCat ta tb) σ H (es ++ fs) := fun Q q => by
  refine h1 _ fun l ps H1 s1 hl p1 => h2 H1 s1 _ fun l2 ps2 H2 s2 hl2 p2 => ?_
  have n1 := p1.length
  have n2 := p2.length
  refine ⟨l, l2, _, _, rfl, rfl, s2 _ _ hl, hl2, by rw [List.length_map, List.length_map]; exact Nat.le_of_lt (small1000 (by omega)), fun p hp => ?_⟩
  rw [← List.map_append]
  have s3 := same_new (o := .lst ((ps ++ ps2).map V.ref)) hp
  exact q p _ _ (s1.trans (s2.trans s3)) upd_same (paired_append (Paired.imp2 (fun _ _ z => z.same (s2.trans s3)) p1) (Paired.imp2 (fun _ _ z => z.same s3) p2))
theorem EE.of {tk : TA} {tv : TE} {k : List Key} {d : PyData} (hn : k.length ≤ 3) (hk : ∀ R : List V → Hp → Prop, R (k.map kV) H → tk σ H R)
    (hv : ∀ H' (R : VK), Same H H' → (∀ H'' v, Same H' H'' → Dp K H'' v d → R v H'') → tv σ H' R) : EE K (tTup (tCons (tTup tk) (tCons tv tNil))) σ H (k, d) := fun Q q => eff_one hn hk hv q
end
theorem stSet0 {te : TE} {i : Nat} {r : TS} {D : Ends} {σ : L2.St} {H : Hp} {v : V} (h : ∀ Q : VK, Q v H → te σ H Q) (k : r D (σ.set i (some v)) H) : tSeq (tAsg te (gName i)) r D σ H := h _ k
theorem seqE {K : PySem.W.Frag} {te : TE} {i : Nat} {r : TS} {D : Ends} {σ : L2.St} {H : Hp} {e : Ef} (h : EE K te σ H e) (k : ∀ p H', Same H H' → EffAt K H' p e → r D (σ.set i (some (.ref p))) H') : tSeq (tAsg te (gName i)) r D σ H := h _ k
theorem seqL {K : PySem.W.Frag} {te : TE} {i : Nat} {r : TS} {D : Ends} {σ : L2.St} {H : Hp} {es : List Ef} (h : LE K te σ H es) (k : ∀ l (ps : List Addr) H', Same H H' → H' l = some (.lst (ps.map V.ref)) → Paired (EffAt K H') ps es → r D (σ.set i (some (.ref l))) H') : tSeq (tAsg te (gName i)) r D σ H := h _ k
theorem ifStrF {i : Nat} {k x : Str} {t r : TS} {D : Ends} {σ : L2.St} {H : Hp} (hσ : σ[i]? = some (some (.str k))) (h : ¬ k = x) (n : r D σ H) : tSeq (tIfS (tTest (tOp rEq (tVar i) (tC (.str x)))) t tNext) r D σ H := by
  refine ⟨_, hσ, rfl, _, rfl, ?_⟩
  rw [decide_eq_false (show ¬ V.str k = V.str x from fun z => h (by cases z; rfl))]
  exact iteF n
theorem ifStrT {i : Nat} {x : Str} {t u r : TS} {D : Ends} {σ : L2.St} {H : Hp} (hσ : σ[i]? = some (some (.str x))) (n : t { D with nx := r D } σ H) : tSeq (tIfS (tTest (tOp rEq (tVar i) (tC (.str x)))) t u) r D σ H := by
  refine ⟨_, hσ, rfl, _, rfl, ?_⟩
  rw [decide_eq_true rfl]
  exact iteT n
def spLAnswer (K : PySem.W.Frag) : Sp := fun vs H Q _ => ∃ (t : Addr) (r : Rc), vs = [.ref t] ∧ RecAt K H t r ∧ ∀ v H', Same H H' → Dp K H' v (answD (kindS r.b) r.o) → Q v H'
section
variable {P : Program} {wrl : World} {K : PySem.W.Frag} {mg : Str → Option Value} {base : Heap} {f fA fE fF aK aF : Addr} {fd fdA fdE fdF : FuncData}
theorem scEffects : FnScope ["record","order","kind","host","session","counter","first"] ["record"] (defScope sEffects) := ⟨rfl, rfl, rfl, by decide +kernel, rfl, by decide +kernel, by decide +kernel⟩
theorem ok_effects (F : Fun K "effects" "effects" sEffects f fd) (R : RX K wrl mg aK aF) (GA : Def P wrl K mg base CX0 "answer_of" 1 ["record"] (spAnswerOf K) fA fdA) (GE : Def P wrl K mg base CX0 "_effects_of_kind" 1 ["order", "kind", "host", "fields"] (spEffKind K) fE fdE)
    (GF : Def P wrl K mg base CX0 "fields_of" 1 ["record"] (spFieldsOf K) fF fdF) : FnOk P wrl K mg base CX0 2 f fd ["record"] (spEffects K) := by
  obtain ⟨t0, hHd⟩ := R.gHd
  refine F.ok scEffects (fun vs H Q E h => ?_) (fun cdv A outer s H vs Q E hr h => ?_)
  · obtain ⟨t, r, rfl, _⟩ := h
    rfl
  · obtain ⟨t, r, rfl, ⟨ys, hs, hd⟩, q⟩ := h
    have hr1 : Room 1 _ := hr.mono (by decide)
    refine ⟨_, (pss_cons (ps_asg (pe_slice sl_any (pv 0) po_none (po_some (pe_glob (v := .int 5) (by rfl) hHd ⟨_, rfl⟩))) (pg_tup (by rfl) (pgs_cons (pg_name (i := 1) scEffects.nd rfl (Or.inl rfl)) (pgs_cons (pg_name (i := 2) scEffects.nd rfl (Or.inl rfl)) (pgs_cons (pg_name (i := 3) scEffects.nd rfl (Or.inl rfl)) (pgs_cons (pg_name (i := 4) scEffects.nd rfl (Or.inl rfl)) (pgs_cons (pg_name (i := 5) scEffects.nd rfl (Or.inl rfl)) L2.pgs_nil)))))))
      (pss_cons (ps_set (i := 6) scEffects.nd rfl (Or.inl rfl) (pe_tup (pa_cons (pe_tup (pa_cons pe_str (pa_cons (pv 3) pa_nil))) (pa_cons (pe_tup (pa_cons (pv 4) (pa_cons (pv 5) (pa_cons (pe_call GA.ok hr1 (by rfl) GA.mg GA.kp GA.bd .nil pass0 (pa_cons (pv 0) pa_nil)) pa_nil)))) pa_nil))))
      (pss_one (ps_ret (pe_op op_cat (pe_lst (pa_cons (pv 6) pa_nil)) (pe_call GE.ok hr1 (by rfl) GE.mg GE.kp GE.bd .nil pass0 (pa_cons (pv 1) (pa_cons (pv 2) (pa_cons (pv 3) (pa_cons (pe_call GF.ok hr1 (by rfl) GF.mg GF.kp GF.bd .nil pass0 (pa_cons (pv 0) pa_nil)) pa_nil)))))))))), ?_⟩
    refine ⟨_, rfl, 5, rfl, t, _, rfl, hs, fun p H1 s1 hp => ?_⟩
    rw [cut_head] at hp
    refine ⟨p, _, rfl, hp, rfl, _, _, rfl, _, _, rfl, _, _, rfl, _, _, rfl, _, _, rfl, rfl, ?_⟩
    have hs1 := SqT_same s1 hs
    dsimp only [gName]
    refine seqE (K := K) (e := effH r) (EE.of (by show 2 ≤ 3; decide) (fun S z => ⟨_, rfl, z⟩) (fun H2 S s2 z => ?_)) fun p1 H2 s2 e2 => ?_
    · refine ⟨_, rfl, _, rfl, _, rfl, t, r.o, kindS r.b, _, rfl, SqT_same s2 hs1, fun v H3 s3 hv => ⟨by show 3 ≤ sizeLine; decide, fun u hu => ?_⟩⟩
      exact z _ _ (s3.trans (same_new hu)) (.tup (SqT.of upd_same) (.cons (.int _) (.cons (.int _) (.cons (dp_same (same_new hu) _ _ hv) .nil))))
    · have s12 := s1.trans s2
      refine LE.cat (K := K) (es := [effH r]) (fs := effB r.o r.h r.b) (LE.one fun Q' q' => ⟨_, rfl, q' p1 H2 (Same.refl H2) e2⟩) (fun H3 s3 Q' q' => ?_) (by cases r with | mk o h s c b => cases b <;> simp [effB] <;> (try split) <;> simp) _ fun l ps H' s' hl pr => q l ps H' (s12.trans s') hl pr
      have s13 := s12.trans s3
      refine ⟨_, rfl, _, rfl, _, rfl, _, rfl, t, _, _, _, _, _, ys, rfl, SqT_same s13 hs, fun pf H4 s4 hpf => ?_⟩
      exact ⟨r.o, r.h, pf, r.b, ys, rfl, hpf, dpAll_same (s13.trans s4) _ _ hd, fun l ps H' s' hl pr => q' l ps H' (s4.trans s') hl pr⟩
theorem scLAnswer : FnScope ["record"] ["record"] (defScope sLAnswer) := ⟨rfl, rfl, rfl, by decide +kernel, rfl, by decide +kernel, by decide +kernel⟩
theorem ok_lanswer (F : Fun K "_law_answer" "_law_answer" sLAnswer f fd) : FnOk P wrl K mg base CX0 1 f fd ["record"] (spLAnswer K) := by
  refine F.ok scLAnswer (fun vs H Q E h => ?_) (fun cdv A outer s H vs Q E hr h => ?_)
  · obtain ⟨t, r, rfl, _⟩ := h
    rfl
  · obtain ⟨t, r, rfl, ⟨ys, hs, hd⟩, q⟩ := h
    refine ⟨_, (pss_cons (ps_if (pt_cmpR op_eq (pe_ix ix_tup (pv 0) pe_int (fun _ _ => rfl)) pe_str (nomark _))
      (pss_one (ps_ret pe_non)) pss_nil)
      (pss_cons (ps_if (pt_cmpR op_in_seq (pe_ix ix_tup (pv 0) pe_int (fun _ _ => rfl)) (pe_tup (pa_cons pe_str (pa_cons pe_str pa_nil))) (by rfl))
      (pss_one (ps_ret (pe_tup (pa_cons pe_str (pa_cons (pe_ix ix_tup (pv 0) pe_int (fun _ _ => rfl)) pa_nil))))) pss_nil)
      (pss_one (ps_ret (pe_tup (pa_cons pe_str (pa_cons pe_non pa_nil))))))), ?_⟩
    generalize hk : kindS r.b = k at hs q
    refine ⟨_, rfl, t, _, _, _, rfl, rfl, hs, atI_nat (j := 1) rfl, rfl, _, rfl, ?_⟩
    by_cases e : k = "mark"
    · subst e
      rw [str_eqT]
      refine iteT ?_
      exact q .non H (Same.refl H) .non
    · rw [str_eqF e]
      refine iteF ⟨_, rfl, t, _, _, _, rfl, rfl, hs, atI_nat (j := 1) rfl, by show 2 ≤ sizeLine; decide, fun tt htt => ?_⟩
      have s2 := same_new (o := .tup [.str "snap", .str "register"]) htt
      have e' : inV (.str k) [.str "snap", .str "register"] = strIn k ["snap", "register"] := inV_str (ns := ["snap", "register"])
      refine ⟨tt, _, rfl, .inr (SqT.of upd_same), rfl, rfl, _, rfl, ?_⟩
      rw [e']
      cases hin : strIn k ["snap", "register"] with
      | true =>
        refine iteT ⟨_, rfl, t, _, _, _, rfl, rfl, SqT_same s2 hs, atI_nat (j := 0) rfl, by show 2 ≤ sizeLine; decide, fun u hu => ?_⟩
        refine q (.ref u) _ (s2.trans (same_new hu)) ?_
        unfold answD
        rw [if_neg e, if_pos hin]
        exact .tup (SqT.of upd_same) (.cons (.str _) (.cons (.int _) .nil))
      | false =>
        refine iteF ⟨by show 2 ≤ sizeLine; decide, fun u hu => ?_⟩
        refine q (.ref u) _ (s2.trans (same_new hu)) ?_
        unfold answD
        rw [if_neg e, if_neg (by rw [hin]; exact Bool.false_ne_true)]
        exact .tup (SqT.of upd_same) (.cons (.str _) (.cons .non .nil))
theorem scLDue : FnScope ["record","order","kind","host","session","counter","due","one"] ["record"] (defScope sLDue) := ⟨rfl, rfl, rfl, by decide +kernel, rfl, by decide +kernel, by decide +kernel⟩
theorem ok_ldue (F : Fun K "_law_due" "_law_due" sLDue f fd) (mi : mg "int" = none) (GA : Def P wrl K mg base CX0 "_law_answer" 1 ["record"] (spLAnswer K) fA fdA) : FnOk P wrl K mg base CX0 2 f fd ["record"] (spEffects K) := by
  refine F.ok scLDue (fun vs H Q E h => ?_) (fun cdv A outer s H vs Q E hr h => ?_)
  · obtain ⟨t, r, rfl, _⟩ := h
    rfl
  · obtain ⟨t, r, rfl, ⟨ys, hs, hd⟩, q⟩ := h
    refine ⟨_, (pss_cons (ps_asg (pe_slice sl_any (pv 0) po_none (po_some pe_int)) (pg_tup (by rfl) (pgs_cons (pg_name (i := 1) scLDue.nd rfl (Or.inl rfl)) (pgs_cons (pg_name (i := 2) scLDue.nd rfl (Or.inl rfl)) (pgs_cons (pg_name (i := 3) scLDue.nd rfl (Or.inl rfl)) (pgs_cons (pg_name (i := 4) scLDue.nd rfl (Or.inl rfl)) (pgs_cons (pg_name (i := 5) scLDue.nd rfl (Or.inl rfl)) L2.pgs_nil)))))))
      (pss_cons (ps_set (i := 6) scLDue.nd rfl (Or.inl rfl) (pe_lst (pa_cons (pe_tup (pa_cons (pe_tup (pa_cons pe_str (pa_cons (pv 3) pa_nil))) (pa_cons (pe_tup (pa_cons (pv 4) (pa_cons (pv 5) (pa_cons (pe_call GA.ok hr (by rfl) GA.mg GA.kp GA.bd .nil pass0 (pa_cons (pv 0) pa_nil)) pa_nil)))) pa_nil))) pa_nil)))
      (pss_cons (ps_set (i := 7) scLDue.nd rfl (Or.inl rfl) (pe_ix ix_tup (pv 0) pe_int (fun _ _ => rfl)))
      (pss_cons (ps_if (pt_cmpR op_eq (pv 2) pe_str (nomark _))
      (pss_one (ps_ret (pe_op op_cat (pv 6) (pe_lst (pa_cons (pe_tup (pa_cons (pe_tup (pa_cons pe_str (pa_cons (pv 3) pa_nil))) (pa_cons (pv 7) pa_nil))) pa_nil))))) pss_nil)
      (pss_cons (ps_if (pt_cmpR op_eq (pv 2) pe_str (nomark _))
      (pss_one (ps_ret (pe_op op_cat (pv 6) (pe_lst (pa_cons (pe_tup (pa_cons (pe_tup (pa_cons pe_str (pa_cons (pv 7) pa_nil))) (pa_cons (pe_ix ix_tup (pv 0) pe_int (fun _ _ => rfl)) pa_nil))) pa_nil))))) pss_nil)
      (pss_cons (ps_if (pt_cmpR op_eq (pv 2) pe_str (nomark _))
      (pss_one (ps_ret (pe_op op_cat (pe_op op_cat (pv 6) (pe_lst (pa_cons (pe_tup (pa_cons (pe_tup (pa_cons pe_str (pa_cons (pv 7) (pa_cons (pv 3) pa_nil)))) (pa_cons pe_non pa_nil))) pa_nil))) (pe_op op_rep (pe_lst (pa_cons (pe_tup (pa_cons (pe_tup (pa_cons pe_str (pa_cons (pv 7) pa_nil))) (pa_cons pe_non pa_nil))) pa_nil)) (pe_callTy call_int1 (by rfl) mi (by decide +kernel) (pa_cons (pe_ix ix_tup (pv 0) pe_int (fun _ _ => rfl)) pa_nil)))))) pss_nil)
      (pss_cons (ps_if (pt_cmpR op_eq (pv 2) pe_str (nomark _))
      (pss_one (ps_ret (pe_op op_cat (pv 6) (pe_lst (pa_cons (pe_tup (pa_cons (pe_tup (pa_cons pe_str (pa_cons (pv 7) pa_nil))) (pa_cons (pv 1) pa_nil))) pa_nil))))) pss_nil)
      (pss_cons (ps_if (pt_cmpR op_eq (pv 2) pe_str (nomark _))
      (pss_one (ps_ret (pe_op op_cat (pv 6) (pe_lst (pa_cons (pe_tup (pa_cons (pe_tup (pa_cons pe_str (pa_cons (pv 7) (pa_cons (pe_ix ix_tup (pv 0) pe_int (fun _ _ => rfl)) pa_nil)))) (pa_cons (pe_ix ix_tup (pv 0) pe_int (fun _ _ => rfl)) pa_nil))) pa_nil))))) pss_nil)
      (pss_cons (ps_if (pt_cmpR op_eq (pv 2) pe_str (nomark _))
      (pss_one (ps_ret (pe_op op_cat (pv 6) (pe_lst (pa_cons (pe_tup (pa_cons (pe_tup (pa_cons pe_str (pa_cons (pv 7) (pa_cons (pe_ix ix_tup (pv 0) pe_int (fun _ _ => rfl)) pa_nil)))) (pa_cons pe_non pa_nil))) pa_nil))))) pss_nil)
      (pss_cons (ps_if (pt_cmpR op_eq (pv 2) pe_str (nomark _))
      (pss_one (ps_ret (pe_op op_cat (pv 6) (pe_lst (pa_cons (pe_tup (pa_cons (pe_tup (pa_cons pe_str (pa_cons (pv 7) (pa_cons (pv 1) pa_nil)))) (pa_cons (pv 1) pa_nil))) pa_nil))))) pss_nil)
      (pss_cons (ps_if (pt_cmpR op_eq (pv 2) pe_str (nomark _))
      (pss_one (ps_ret (pe_op op_cat (pv 6) (pe_lst (pa_cons (pe_tup (pa_cons (pe_tup (pa_cons pe_str (pa_cons (pv 7) (pa_cons (pe_ix ix_tup (pv 0) pe_int (fun _ _ => rfl)) pa_nil)))) (pa_cons pe_non pa_nil))) pa_nil))))) pss_nil)
      (pss_cons (ps_if (pt_cmpR op_eq (pv 2) pe_str (nomark _))
      (pss_one (ps_ret (pe_op op_cat (pv 6) (pe_lst (pa_cons (pe_tup (pa_cons (pe_tup (pa_cons pe_str (pa_cons (pv 7) (pa_cons (pv 3) pa_nil)))) (pa_cons (pv 1) pa_nil))) pa_nil))))) pss_nil)
      (pss_cons (ps_if (pt_cmpR op_eq (pv 2) pe_str (nomark _))
      (pss_one (ps_ret (pe_op op_cat (pv 6) (pe_lst (pa_cons (pe_tup (pa_cons (pe_tup (pa_cons pe_str (pa_cons (pv 7) pa_nil))) (pa_cons (pe_tup (pa_cons (pv 3) (pa_cons (pe_ix ix_tup (pv 0) pe_int (fun _ _ => rfl)) pa_nil))) pa_nil))) pa_nil))))) pss_nil)
      (pss_cons (ps_if (pt_cmpR op_eq (pv 2) pe_str (nomark _))
      (pss_one (ps_ret (pe_op op_cat (pv 6) (pe_lst (pa_cons (pe_tup (pa_cons (pe_tup (pa_cons pe_str (pa_cons (pv 7) pa_nil))) (pa_cons pe_non pa_nil))) pa_nil))))) pss_nil)
      (pss_cons (ps_set (i := 6) scLDue.nd rfl (Or.inl rfl) (pe_op op_cat (pv 6) (pe_lst (pa_cons (pe_tup (pa_cons (pe_tup (pa_cons pe_str (pa_cons (pv 7) (pa_cons (pe_ix ix_tup (pv 0) pe_int (fun _ _ => rfl)) pa_nil)))) (pa_cons pe_non pa_nil))) pa_nil))))
      (Evl.pss_cut (ps_if (pt_cmpR op_notN (pe_ix ix_tup (pv 0) pe_int (fun _ _ => rfl)) pe_non (nomark _))
      (pss_one (ps_set (i := 6) scLDue.nd rfl (Or.inl rfl) (pe_op op_cat (pv 6) (pe_lst (pa_cons (pe_tup (pa_cons (pe_tup (pa_cons pe_str (pa_cons (pv 7) pa_nil))) (pa_cons (pe_tup (pa_cons (pv 3) (pa_cons (pe_ix ix_tup (pv 0) pe_int (fun _ _ => rfl)) pa_nil))) pa_nil))) pa_nil))))) pss_nil)
      (pss_one (ps_ret (pv 6))))))))))))))))))), ?_⟩
    refine ⟨_, rfl, 5, rfl, t, _, rfl, hs, fun p H1 s1 hp => ?_⟩
    rw [show cutV (V.int r.o :: .str (kindS r.b) :: .int r.h :: .int r.s :: .int r.c :: ys) none (some 5) = _ from cut_head] at hp
    refine ⟨p, _, rfl, hp, rfl, _, _, rfl, _, _, rfl, _, _, rfl, _, _, rfl, _, _, rfl, rfl, ?_⟩
    have hs1 := SqT_same s1 hs
    dsimp only [gName]
    refine seqL (K := K) (es := [effH r]) (LE.one (EE.of (by show 2 ≤ 3; decide) (fun S z => ⟨_, rfl, z⟩) (fun H2 S s2 z => ?_))) fun l0 ps0 H2 s2 hl0 pr0 => ?_
    · refine ⟨_, rfl, _, rfl, _, rfl, t, r, rfl, ⟨ys, SqT_same s2 hs1, dpAll_same (s1.trans s2) _ _ hd⟩, fun v H3 s3 hv => ⟨by show 3 ≤ sizeLine; decide, fun u hu => ?_⟩⟩
      exact z _ _ (s3.trans (same_new hu)) (.tup (SqT.of upd_same) (.cons (.int _) (.cons (.int _) (.cons (dp_same (same_new hu) _ _ hv) .nil))))
    have s12 := s1.trans s2
    have hs2 := SqT_same s12 hs
    have hd2 := dpAll_same s12 _ _ hd
    have q2 : ∀ l (ps : List Addr) H', Same H2 H' → H' l = some (.lst (ps.map V.ref)) → Paired (EffAt K H') ps (effR r) → Q (.ref l) H' := fun l ps H' s' => q l ps H' (s12.trans s')
    clear q hs1 hp hd hs
    obtain ⟨o, h, s, c, b⟩ := r
    cases b with
    | mark d =>
      obtain ⟨x1, r1, rfl, e1, b1⟩ := dpAll_cons hd2
      obtain rfl := dpAll_nil b1
      refine stSet0 (fun R z => ⟨_, rfl, t, _, _, _, rfl, rfl, hs2, atI_nat (j := 5) rfl, z⟩) ?_
      refine ifStrT rfl ?_
      exact LE.cat (LE.var rfl hl0 pr0) (fun H3 s3 => (LE.one (K := K) (EE.of (k := [.inr "told", .inl h]) (d := d) (by show 2 ≤ 3; decide) (fun S z => ⟨_, rfl, z⟩) (fun H4 S sm z => ⟨_, rfl, z _ _ (Same.refl _) (dp_same (s3.trans sm) _ _ e1)⟩)))) (by show 1 + 1 ≤ 100; decide) _ fun l ps H' s' hl pr => q2 l ps H' s' hl pr
    | make n z =>
      obtain ⟨x1, r1, rfl, e1, b1⟩ := dpAll_cons hd2
      obtain rfl := dp_int e1
      obtain ⟨x2, r2, rfl, e2, b2⟩ := dpAll_cons b1
      obtain rfl := dp_int e2
      obtain rfl := dpAll_nil b2
      refine stSet0 (fun R z => ⟨_, rfl, t, _, _, _, rfl, rfl, hs2, atI_nat (j := 5) rfl, z⟩) ?_
      refine ifStrF rfl (by dsimp only [kindS]; decide) ?_
      refine ifStrT rfl ?_
      exact LE.cat (LE.var rfl hl0 pr0) (fun H3 s3 => (LE.one (K := K) (EE.of (k := [.inr "space", .inl n]) (d := .int z) (by show 2 ≤ 3; decide) (fun S z => ⟨_, rfl, z⟩) (fun H4 S sm z => ⟨_, rfl, t, _, _, _, rfl, rfl, SqT_same (s3.trans sm) hs2, atI_nat (j := 6) rfl, z _ _ (Same.refl _) (.int _)⟩)))) (by show 1 + 1 ≤ 100; decide) _ fun l ps H' s' hl pr => q2 l ps H' s' hl pr
    | remove n =>
      obtain ⟨x1, r1, rfl, e1, b1⟩ := dpAll_cons hd2
      obtain rfl := dp_int e1
      obtain rfl := dpAll_nil b1
      refine stSet0 (fun R z => ⟨_, rfl, t, _, _, _, rfl, rfl, hs2, atI_nat (j := 5) rfl, z⟩) ?_
      refine ifStrF rfl (by dsimp only [kindS]; decide) ?_
      refine ifStrF rfl (by dsimp only [kindS]; decide) ?_
      refine ifStrF rfl (by dsimp only [kindS]; decide) ?_
      refine ifStrT rfl ?_
      exact LE.cat (LE.var rfl hl0 pr0) (fun H3 s3 => (LE.one (K := K) (EE.of (k := [.inr "gone", .inl n]) (d := .int o) (by show 2 ≤ 3; decide) (fun S z => ⟨_, rfl, z⟩) (fun H4 S sm z => ⟨_, rfl, z _ _ (Same.refl _) (.int _)⟩)))) (by show 1 + 1 ≤ 100; decide) _ fun l ps H' s' hl pr => q2 l ps H' s' hl pr
    | write n p v =>
      obtain ⟨x1, r1, rfl, e1, b1⟩ := dpAll_cons hd2
      obtain rfl := dp_int e1
      obtain ⟨x2, r2, rfl, e2, b2⟩ := dpAll_cons b1
      obtain rfl := dp_int e2
      obtain ⟨x3, r3, rfl, e3, b3⟩ := dpAll_cons b2
      obtain rfl := dp_int e3
      obtain rfl := dpAll_nil b3
      refine stSet0 (fun R z => ⟨_, rfl, t, _, _, _, rfl, rfl, hs2, atI_nat (j := 5) rfl, z⟩) ?_
      refine ifStrF rfl (by dsimp only [kindS]; decide) ?_
      refine ifStrF rfl (by dsimp only [kindS]; decide) ?_
      refine ifStrF rfl (by dsimp only [kindS]; decide) ?_
      refine ifStrF rfl (by dsimp only [kindS]; decide) ?_
      refine ifStrT rfl ?_
      exact LE.cat (LE.var rfl hl0 pr0) (fun H3 s3 => (LE.one (K := K) (EE.of (k := [.inr "place", .inl n, .inl p]) (d := .int v) (by show 3 ≤ 3; decide) (fun S z => ⟨_, rfl, _, rfl, t, _, _, _, rfl, rfl, SqT_same s3 hs2, atI_nat (j := 6) rfl, z⟩) (fun H4 S sm z => ⟨_, rfl, t, _, _, _, rfl, rfl, SqT_same (s3.trans sm) hs2, atI_nat (j := 7) rfl, z _ _ (Same.refl _) (.int _)⟩)))) (by show 1 + 1 ≤ 100; decide) _ fun l ps H' s' hl pr => q2 l ps H' s' hl pr
    | trim n p =>
      obtain ⟨x1, r1, rfl, e1, b1⟩ := dpAll_cons hd2
      obtain rfl := dp_int e1
      obtain ⟨x2, r2, rfl, e2, b2⟩ := dpAll_cons b1
      obtain rfl := dp_int e2
      obtain rfl := dpAll_nil b2
      refine stSet0 (fun R z => ⟨_, rfl, t, _, _, _, rfl, rfl, hs2, atI_nat (j := 5) rfl, z⟩) ?_
      refine ifStrF rfl (by dsimp only [kindS]; decide) ?_
      refine ifStrF rfl (by dsimp only [kindS]; decide) ?_
      refine ifStrF rfl (by dsimp only [kindS]; decide) ?_
      refine ifStrF rfl (by dsimp only [kindS]; decide) ?_
      refine ifStrF rfl (by dsimp only [kindS]; decide) ?_
      refine ifStrT rfl ?_
      exact LE.cat (LE.var rfl hl0 pr0) (fun H3 s3 => (LE.one (K := K) (EE.of (k := [.inr "place", .inl n, .inl p]) (d := .none) (by show 3 ≤ 3; decide) (fun S z => ⟨_, rfl, _, rfl, t, _, _, _, rfl, rfl, SqT_same s3 hs2, atI_nat (j := 6) rfl, z⟩) (fun H4 S sm z => z _ _ (Same.refl _) .non)))) (by show 1 + 1 ≤ 100; decide) _ fun l ps H' s' hl pr => q2 l ps H' s' hl pr
    | snap n =>
      obtain ⟨x1, r1, rfl, e1, b1⟩ := dpAll_cons hd2
      obtain rfl := dp_int e1
      obtain rfl := dpAll_nil b1
      refine stSet0 (fun R z => ⟨_, rfl, t, _, _, _, rfl, rfl, hs2, atI_nat (j := 5) rfl, z⟩) ?_
      refine ifStrF rfl (by dsimp only [kindS]; decide) ?_
      refine ifStrF rfl (by dsimp only [kindS]; decide) ?_
      refine ifStrF rfl (by dsimp only [kindS]; decide) ?_
      refine ifStrF rfl (by dsimp only [kindS]; decide) ?_
      refine ifStrF rfl (by dsimp only [kindS]; decide) ?_
      refine ifStrF rfl (by dsimp only [kindS]; decide) ?_
      refine ifStrT rfl ?_
      exact LE.cat (LE.var rfl hl0 pr0) (fun H3 s3 => (LE.one (K := K) (EE.of (k := [.inr "snap", .inl n, .inl o]) (d := .int o) (by show 3 ≤ 3; decide) (fun S z => ⟨_, rfl, _, rfl, z⟩) (fun H4 S sm z => ⟨_, rfl, z _ _ (Same.refl _) (.int _)⟩)))) (by show 1 + 1 ≤ 100; decide) _ fun l ps H' s' hl pr => q2 l ps H' s' hl pr
    | drop n s =>
      obtain ⟨x1, r1, rfl, e1, b1⟩ := dpAll_cons hd2
      obtain rfl := dp_int e1
      obtain ⟨x2, r2, rfl, e2, b2⟩ := dpAll_cons b1
      obtain rfl := dp_int e2
      obtain rfl := dpAll_nil b2
      refine stSet0 (fun R z => ⟨_, rfl, t, _, _, _, rfl, rfl, hs2, atI_nat (j := 5) rfl, z⟩) ?_
      refine ifStrF rfl (by dsimp only [kindS]; decide) ?_
      refine ifStrF rfl (by dsimp only [kindS]; decide) ?_
      refine ifStrF rfl (by dsimp only [kindS]; decide) ?_
      refine ifStrF rfl (by dsimp only [kindS]; decide) ?_
      refine ifStrF rfl (by dsimp only [kindS]; decide) ?_
      refine ifStrF rfl (by dsimp only [kindS]; decide) ?_
      refine ifStrF rfl (by dsimp only [kindS]; decide) ?_
      refine ifStrT rfl ?_
      exact LE.cat (LE.var rfl hl0 pr0) (fun H3 s3 => (LE.one (K := K) (EE.of (k := [.inr "snap", .inl n, .inl s]) (d := .none) (by show 3 ≤ 3; decide) (fun S z => ⟨_, rfl, _, rfl, t, _, _, _, rfl, rfl, SqT_same s3 hs2, atI_nat (j := 6) rfl, z⟩) (fun H4 S sm z => z _ _ (Same.refl _) .non)))) (by show 1 + 1 ≤ 100; decide) _ fun l ps H' s' hl pr => q2 l ps H' s' hl pr
    | register n =>
      obtain ⟨x1, r1, rfl, e1, b1⟩ := dpAll_cons hd2
      obtain rfl := dp_int e1
      obtain rfl := dpAll_nil b1
      refine stSet0 (fun R z => ⟨_, rfl, t, _, _, _, rfl, rfl, hs2, atI_nat (j := 5) rfl, z⟩) ?_
      refine ifStrF rfl (by dsimp only [kindS]; decide) ?_
      refine ifStrF rfl (by dsimp only [kindS]; decide) ?_
      refine ifStrF rfl (by dsimp only [kindS]; decide) ?_
      refine ifStrF rfl (by dsimp only [kindS]; decide) ?_
      refine ifStrF rfl (by dsimp only [kindS]; decide) ?_
      refine ifStrF rfl (by dsimp only [kindS]; decide) ?_
      refine ifStrF rfl (by dsimp only [kindS]; decide) ?_
      refine ifStrF rfl (by dsimp only [kindS]; decide) ?_
      refine ifStrT rfl ?_
      exact LE.cat (LE.var rfl hl0 pr0) (fun H3 s3 => (LE.one (K := K) (EE.of (k := [.inr "key", .inl n, .inl h]) (d := .int o) (by show 3 ≤ 3; decide) (fun S z => ⟨_, rfl, _, rfl, z⟩) (fun H4 S sm z => ⟨_, rfl, z _ _ (Same.refl _) (.int _)⟩)))) (by show 1 + 1 ≤ 100; decide) _ fun l ps H' s' hl pr => q2 l ps H' s' hl pr
    | leave n held =>
      obtain ⟨x1, r1, rfl, e1, b1⟩ := dpAll_cons hd2
      obtain rfl := dp_int e1
      obtain ⟨x2, r2, rfl, e2, b2⟩ := dpAll_cons b1
      obtain rfl := dp_bool e2
      obtain rfl := dpAll_nil b2
      refine stSet0 (fun R z => ⟨_, rfl, t, _, _, _, rfl, rfl, hs2, atI_nat (j := 5) rfl, z⟩) ?_
      refine ifStrF rfl (by dsimp only [kindS]; decide) ?_
      refine ifStrF rfl (by dsimp only [kindS]; decide) ?_
      refine ifStrT rfl ?_
      refine LE.cat (es := [effH ⟨o, h, s, c, .leave n held⟩] ++ [([.inr "key", .inl n, .inl h], .none)]) (fs := if held then [([.inr "hold", .inl n], .none)] else []) (LE.cat (LE.var rfl hl0 pr0) (fun H3 s3 => (LE.one (K := K) (EE.of (k := [.inr "key", .inl n, .inl h]) (d := .none) (by show 3 ≤ 3; decide) (fun S z => ⟨_, rfl, _, rfl, z⟩) (fun H4 S sm z => z _ _ (Same.refl _) .non)))) (by show 1 + 1 ≤ 100; decide)) (fun H3 s3 Q' q' => ?_) (by cases held <;> simp) _ fun l ps H' s' hl pr => q2 l ps H' s' hl (by cases held <;> exact pr)
      refine (LE.one (K := K) (EE.of (k := [.inr "hold", .inl n]) (d := .none) (by show 2 ≤ 3; decide) (fun S z => ⟨_, rfl, z⟩) (fun H4 S sm z => z _ _ (Same.refl _) .non))) _ fun l ps H4 s4 hl pr => ?_
      refine ⟨_, rfl, t, _, _, _, rfl, rfl, SqT_same (s3.trans s4) hs2, atI_nat (j := 6) rfl, .inr ⟨_, rfl, ?_⟩⟩
      cases held with
      | true =>
        refine ⟨l, _, _, rfl, rfl, hl, by decide, by decide, by rw [List.length_map, pr.length]; show (1:Nat) ≤ sizeLine; decide, fun p hp => ?_⟩
        exact q' p ps _ (s4.trans (same_new hp)) (by rw [upd_same]; simp) (Paired.imp2 (fun _ _ z => z.same (same_new hp)) pr)
      | false =>
        refine ⟨l, _, _, rfl, rfl, hl, by decide, by decide, by rw [List.length_map, pr.length]; show (0:Nat) ≤ sizeLine; decide, fun p hp => ?_⟩
        exact q' p [] _ (s4.trans (same_new hp)) (by rw [upd_same]; simp) .nil
    | reserve n w =>
      obtain ⟨x1, r1, rfl, e1, b1⟩ := dpAll_cons hd2
      obtain rfl := dp_int e1
      obtain ⟨x2, r2, rfl, e2, b2⟩ := dpAll_cons b1
      obtain rfl := dp_strv e2
      obtain rfl := dpAll_nil b2
      refine stSet0 (fun R z => ⟨_, rfl, t, _, _, _, rfl, rfl, hs2, atI_nat (j := 5) rfl, z⟩) ?_
      refine ifStrF rfl (by dsimp only [kindS]; decide) ?_
      refine ifStrF rfl (by dsimp only [kindS]; decide) ?_
      refine ifStrF rfl (by dsimp only [kindS]; decide) ?_
      refine ifStrF rfl (by dsimp only [kindS]; decide) ?_
      refine ifStrF rfl (by dsimp only [kindS]; decide) ?_
      refine ifStrF rfl (by dsimp only [kindS]; decide) ?_
      refine ifStrF rfl (by dsimp only [kindS]; decide) ?_
      refine ifStrF rfl (by dsimp only [kindS]; decide) ?_
      refine ifStrF rfl (by dsimp only [kindS]; decide) ?_
      refine ifStrT rfl ?_
      exact LE.cat (LE.var rfl hl0 pr0) (fun H3 s3 => (LE.one (K := K) (EE.of (k := [.inr "hold", .inl n]) (d := .tuple [.int h, .str w]) (by show 2 ≤ 3; decide) (fun S z => ⟨_, rfl, z⟩) (fun H4 S sm z => ⟨_, rfl, _, rfl, t, _, _, _, rfl, rfl, SqT_same (s3.trans sm) hs2, atI_nat (j := 6) rfl, by show 2 ≤ sizeLine; decide, fun u hu => z _ _ (same_new hu) (.tup (SqT.of upd_same) (.cons (.int _) (.cons (.str _) .nil)))⟩)))) (by show 1 + 1 ≤ 100; decide) _ fun l ps H' s' hl pr => q2 l ps H' s' hl pr
    | release n =>
      obtain ⟨x1, r1, rfl, e1, b1⟩ := dpAll_cons hd2
      obtain rfl := dp_int e1
      obtain rfl := dpAll_nil b1
      refine stSet0 (fun R z => ⟨_, rfl, t, _, _, _, rfl, rfl, hs2, atI_nat (j := 5) rfl, z⟩) ?_
      refine ifStrF rfl (by dsimp only [kindS]; decide) ?_
      refine ifStrF rfl (by dsimp only [kindS]; decide) ?_
      refine ifStrF rfl (by dsimp only [kindS]; decide) ?_
      refine ifStrF rfl (by dsimp only [kindS]; decide) ?_
      refine ifStrF rfl (by dsimp only [kindS]; decide) ?_
      refine ifStrF rfl (by dsimp only [kindS]; decide) ?_
      refine ifStrF rfl (by dsimp only [kindS]; decide) ?_
      refine ifStrF rfl (by dsimp only [kindS]; decide) ?_
      refine ifStrF rfl (by dsimp only [kindS]; decide) ?_
      refine ifStrF rfl (by dsimp only [kindS]; decide) ?_
      refine ifStrT rfl ?_
      exact LE.cat (LE.var rfl hl0 pr0) (fun H3 s3 => (LE.one (K := K) (EE.of (k := [.inr "hold", .inl n]) (d := .none) (by show 2 ≤ 3; decide) (fun S z => ⟨_, rfl, z⟩) (fun H4 S sm z => z _ _ (Same.refl _) .non)))) (by show 1 + 1 ≤ 100; decide) _ fun l ps H' s' hl pr => q2 l ps H' s' hl pr
    | preempt n v w =>
      obtain ⟨x1, r1, rfl, e1, b1⟩ := dpAll_cons hd2
      obtain rfl := dp_int e1
      obtain ⟨x2, r2, rfl, e2, b2⟩ := dpAll_cons b1
      obtain rfl := dp_int e2
      obtain ⟨x3, r3, rfl, e3, b3⟩ := dpAll_cons b2
      obtain rfl := dpAll_nil b3
      refine stSet0 (fun R z => ⟨_, rfl, t, _, _, _, rfl, rfl, hs2, atI_nat (j := 5) rfl, z⟩) ?_
      refine ifStrF rfl (by dsimp only [kindS]; decide) ?_
      refine ifStrF rfl (by dsimp only [kindS]; decide) ?_
      refine ifStrF rfl (by dsimp only [kindS]; decide) ?_
      refine ifStrF rfl (by dsimp only [kindS]; decide) ?_
      refine ifStrF rfl (by dsimp only [kindS]; decide) ?_
      refine ifStrF rfl (by dsimp only [kindS]; decide) ?_
      refine ifStrF rfl (by dsimp only [kindS]; decide) ?_
      refine ifStrF rfl (by dsimp only [kindS]; decide) ?_
      refine ifStrF rfl (by dsimp only [kindS]; decide) ?_
      refine ifStrF rfl (by dsimp only [kindS]; decide) ?_
      refine ifStrF rfl (by dsimp only [kindS]; decide) ?_
      refine seqL (es := [effH ⟨o, h, s, c, .preempt n v w⟩] ++ [([.inr "key", .inl n, .inl v], .none)]) (LE.cat (LE.var rfl hl0 pr0) (fun H3 s3 => (LE.one (K := K) (EE.of (k := [.inr "key", .inl n, .inl v]) (d := .none) (by show 3 ≤ 3; decide) (fun S z => ⟨_, rfl, _, rfl, t, _, _, _, rfl, rfl, SqT_same s3 hs2, atI_nat (j := 6) rfl, z⟩) (fun H4 S sm z => z _ _ (Same.refl _) .non)))) (by show 1 + 1 ≤ 100; decide)) fun l1 ps1 H3 s3 hl1 pr1 => ?_
      have hs3 := SqT_same s3 hs2
      refine ⟨fun σ H' => ∃ (l : Addr) (ps : List Addr), σ[6]? = some (some (.ref l)) ∧ Same H2 H' ∧ H' l = some (.lst (ps.map V.ref)) ∧ Paired (EffAt K H') ps (effR ⟨o, h, s, c, .preempt n v w⟩), ?_, ?_⟩
      · refine ⟨_, rfl, t, _, _, _, rfl, rfl, hs3, atI_nat (j := 7) rfl, rfl, _, rfl, ?_⟩
        cases w with
        | none =>
          obtain rfl := dp_none e3
          refine iteF ?_
          exact ⟨l1, ps1, rfl, s3, hl1, pr1⟩
        | some w =>
          obtain rfl := dp_strv e3
          refine iteT ?_
          refine LE.cat (es := [effH ⟨o, h, s, c, .preempt n v (some w)⟩] ++ [([.inr "key", .inl n, .inl v], .none)]) (fs := [([.inr "hold", .inl n], .tuple [.int h, .str w])]) (LE.var rfl hl1 pr1) (fun H4 s4 => LE.one (EE.of (k := [.inr "hold", .inl n]) (d := .tuple [.int h, .str w]) (by show 2 ≤ 3; decide) (fun S z => ⟨_, rfl, z⟩) (fun H5 S sm z => ⟨_, rfl, _, rfl, t, _, _, _, rfl, rfl, SqT_same (s4.trans sm) hs3, atI_nat (j := 7) rfl, by show 2 ≤ sizeLine; decide, fun u hu => z _ _ (same_new hu) (.tup (SqT.of upd_same) (.cons (.int _) (.cons (.str _) .nil)))⟩))) (by show 2 + 1 ≤ 100; decide) _ fun l ps H' s' hl pr => ?_
          exact ⟨l, ps, rfl, s3.trans s', hl, pr⟩
      · rintro σ H' ⟨l, ps, e6, s', hl, pr⟩
        exact ⟨_, e6, q2 l ps H' s' hl pr⟩
end
end Sg

set_option Elab.async false
set_option linter.all false
set_option maxRecDepth 100000
set_option maxHeartbeats 8000000
namespace Sg
open PySem PySem.Spec PyProof.Rows L2
theorem elF {i : Nat} {k x : Str} {t u : TS} {D : Ends} {σ : L2.St} {H : Hp} (hσ : σ[i]? = some (some (.str k))) (h : ¬ k = x) (n : u D σ H) : tIfS (tTest (tOp rEq (tVar i) (tC (.str x)))) t u D σ H := by
  refine ⟨_, hσ, rfl, _, rfl, ?_⟩
  rw [decide_eq_false (show ¬ V.str k = V.str x from fun z => h (by cases z; rfl))]
  exact iteF n
theorem elT {i : Nat} {x : Str} {t u : TS} {D : Ends} {σ : L2.St} {H : Hp} (hσ : σ[i]? = some (some (.str x))) (n : t D σ H) : tIfS (tTest (tOp rEq (tVar i) (tC (.str x)))) t u D σ H := by
  refine ⟨_, hσ, rfl, _, rfl, ?_⟩
  rw [decide_eq_true rfl]
  exact iteT n
theorem pick2 {α : Type} (a b : α) (n : Nat) : [a, b][n % 2]? = some (if n % 2 = 0 then a else b) := by
  rcases Nat.mod_two_eq_zero_or_one n with h | h
  · rw [h]; rfl
  · rw [h]; rfl
/-! ### data without lists -/
mutual
def noL : PyData → Bool
  | .list _ => false
  | .dict _ => false
  | .tuple ds => noLAll ds
  | _ => true
def noLAll : List PyData → Bool
  | [] => true
  | d :: ds => noL d && noLAll ds
end
def Sm (d : PyData) : Prop := d.canLay0 = true ∧ d.depth ≤ 4 ∧ noL d = true
theorem sm_int {i : Int} : Sm (.int i) := ⟨by simp [PyData.canLay0], by simp [PyData.depth], by simp [noL]⟩
theorem sm_non : Sm .none := ⟨by simp [PyData.canLay0], by simp [PyData.depth], by simp [noL]⟩
def BdOk : Bd → Prop
  | .mark d => Sm d
  | .reserve _ w => w = "write" ∨ w = "alone"
  | .preempt _ _ (some w) => w = "write" ∨ w = "alone"
  | _ => True
def FOk (o : Int) (b : Bd) : Prop := fieldsD ((fieldT.lookup (kindS b)).getD []) (fldD b) o = true
theorem rec_ok {o h s c : Int} {b : Bd} (ho : 1 ≤ o) (h0 : 0 ≤ h) (h3 : h ≤ 3) (hs : 1 ≤ s) (hc : counterD (kindS b) (.int c) = true) (hf : FOk o b) : recD (.tuple (.int o :: .str (kindS b) :: .int h :: .int s :: .int c :: fldD b)) = true := by
  have hb : betwD 0 3 (.int h) = true := by simp [betwD, h0, h3]
  have hs' : atLeastD 1 (.int s) = true := by simp [atLeastD, hs]
  obtain ⟨ns, e, el⟩ : ∃ ns, fieldT.lookup (kindS b) = some ns ∧ (fldD b).length = ns.length := by cases b <;> exact ⟨_, rfl, rfl⟩
  rw [rec_eq e]
  unfold FOk at hf
  rw [e] at hf
  rw [hb, hs', hc, decide_eq_true ho, decide_eq_true el, show fieldsD ns (fldD b) o = true from hf]
  rfl
theorem fd_ns {n o : Int} (h1 : 1 ≤ n) (h8 : n ≤ 8) : fieldD "namespace" (.int n) o = true := by
  unfold fieldD; rw [if_pos rfl]; simp [betwD, h1, h8]
theorem fd_place {n o : Int} (h1 : 0 ≤ n) (h8 : n ≤ 63) : fieldD "place" (.int n) o = true := by
  unfold fieldD; rw [if_neg (by decide), if_pos rfl]; simp [betwD, h1, h8]
theorem fd_value {n o : Int} : fieldD "value" (.int n) o = true := by
  unfold fieldD; rw [if_neg (by decide), if_neg (by decide), if_pos rfl]; rfl
theorem fd_size {n o : Int} (h1 : 1 ≤ n) (h8 : n ≤ 64) : fieldD "size" (.int n) o = true := by
  unfold fieldD; rw [if_neg (by decide), if_neg (by decide), if_neg (by decide), if_pos rfl]; simp [betwD, h1, h8]
theorem fd_snap {n o : Int} (h1 : 1 ≤ n) (h8 : n ≤ o - 1) : fieldD "snapshot" (.int n) o = true := by
  unfold fieldD; rw [if_neg (by decide), if_neg (by decide), if_neg (by decide), if_neg (by decide), if_pos rfl]; simp [betwD, h1, h8]
theorem fd_victim {n o : Int} (h1 : 0 ≤ n) (h8 : n ≤ 3) : fieldD "victim" (.int n) o = true := by
  unfold fieldD; rw [if_neg (by decide), if_neg (by decide), if_neg (by decide), if_neg (by decide), if_neg (by decide), if_pos rfl]; simp [betwD, h1, h8]
theorem fd_held {b : Bool} {o : Int} : fieldD "held" (.bool b) o = true := by
  unfold fieldD; rw [if_neg (by decide), if_neg (by decide), if_neg (by decide), if_neg (by decide), if_neg (by decide), if_neg (by decide), if_pos rfl]; rfl
theorem fd_told {d : PyData} {o : Int} (h : (noneB d || toldD d) = true) : fieldD "told" d o = true := by
  unfold fieldD; rw [if_neg (by decide), if_neg (by decide), if_neg (by decide), if_neg (by decide), if_neg (by decide), if_neg (by decide), if_neg (by decide), if_pos rfl]; exact h
theorem fd_way {w : Str} {o : Int} (h : w = "write" ∨ w = "alone") : fieldD "way" (.str w) o = true := by
  unfold fieldD; rw [if_neg (by decide), if_neg (by decide), if_neg (by decide), if_neg (by decide), if_neg (by decide), if_neg (by decide), if_neg (by decide), if_neg (by decide), if_neg (fun z => by cases z.2)]
  rcases h with rfl | rfl <;> rfl
theorem fd_wayN {o : Int} : fieldD "way or none" .none o = true := by
  unfold fieldD; rw [if_neg (by decide), if_neg (by decide), if_neg (by decide), if_neg (by decide), if_neg (by decide), if_neg (by decide), if_neg (by decide), if_neg (by decide), if_pos ⟨rfl, rfl⟩]
theorem fd_wayS {w : Str} {o : Int} (h : w = "write" ∨ w = "alone") : fieldD "way or none" (.str w) o = true := by
  unfold fieldD; rw [if_neg (by decide), if_neg (by decide), if_neg (by decide), if_neg (by decide), if_neg (by decide), if_neg (by decide), if_neg (by decide), if_neg (by decide), if_neg (fun z => by cases z.2)]
  rcases h with rfl | rfl <;> rfl
theorem fds_cons {n : Str} {ns : List Str} {d : PyData} {ds : List PyData} {o : Int} (h : fieldD n d o = true) (t : fieldsD ns ds o = true) : fieldsD (n :: ns) (d :: ds) o = true := by
  show (fieldD n d o && fieldsD ns ds o) = true
  rw [h, t]; rfl
def spLRecord (K : PySem.W.Frag) : Sp := fun vs H Q _ => ∃ (o nu pk ot : Nat), vs = [.int (o : Int), .int (nu : Int), .int (pk : Int), .int (ot : Int)] ∧ 1 ≤ o ∧
  ∀ t (r : Rc) H', Same H H' → RecAt K H' t r → r.o = (o : Int) → BdOk r.b → Q (.ref t) H'
section
variable {P : Program} {wrl : World} {K : PySem.W.Frag} {mg : Str → Option Value} {base : Heap} {f fM aK aF CN : Addr} {fd fdM : FuncData}
abbrev LRN : List Str := ["order","number","pick","other","kind","space","way","fields","counter"]
theorem scLRecord : FnScope LRN ["order","number","pick","other"] (defScope sLRecord) := ⟨rfl, rfl, rfl, by decide +kernel, rfl, by decide +kernel, by decide +kernel⟩
theorem ok_lrecord (F : Fun K "_law_record" "_law_record" sLRecord f fd) (mi : mg "int" = none) (mm : mg "max" = none) (R : RX K wrl mg aK aF)
    (GM : Def P wrl K mg base (L2.CX P wrl) "make_record" 6 ["order", "kind", "host", "session", "counter", "fields"] (spMake K CN) fM fdM) : FnOk P wrl K mg base CX0 7 f fd ["order","number","pick","other"] (spLRecord K) := by
  refine F.ok scLRecord (fun vs H Q E h => ?_) (fun cdv A outer s H vs Q E hr h => ?_)
  · obtain ⟨o, nu, pk, ot, rfl, _⟩ := h
    rfl
  · obtain ⟨o, nu, pk, ot, rfl, ho, q⟩ := h
    refine ⟨_, (pss_cons (ps_set (i := 4) scLRecord.nd rfl (Or.inl rfl) (pe_ix ix_tup (pe_glob (v := .ref aK) (by rfl) R.gK rfl) (pe_op op_mod (pv 1) pe_int) (fun _ _ => rfl)))
      (Evl.pss_cut (ps_if (pt_cmpR op_eq (pv 0) pe_int (nomark _))
      (pss_one (ps_set (i := 4) scLRecord.nd rfl (Or.inl rfl) (pe_ix ix_list (pe_lst (pa_cons pe_str (pa_cons pe_str pa_nil))) (pe_op op_mod (pv 1) pe_int) (fun _ _ => rfl)))) pss_nil)
      (pss_cons (ps_set (i := 5) scLRecord.nd rfl (Or.inl rfl) (pe_op op_add pe_int (pe_op op_mod (pv 2) pe_int)))
      (pss_cons (ps_set (i := 6) scLRecord.nd rfl (Or.inl rfl) (pe_ix ix_list (pe_lst (pa_cons pe_str (pa_cons pe_str pa_nil))) (pe_op op_mod (pv 3) pe_int) (fun _ _ => rfl)))
      (pss_cons (ps_set (i := 7) scLRecord.nd rfl (Or.inl rfl) (pe_lst (pa_cons (pv 5) pa_nil)))
      (Evl.pss_cut (ps_if (pt_cmpR op_eq (pv 4) pe_str (nomark _))
      (pss_one (ps_set (i := 7) scLRecord.nd rfl (Or.inl rfl) (pe_lst (pa_cons (pe_ix ix_list (pe_lst (pa_cons pe_non (pa_cons (pe_tup (pa_cons (pe_op op_add pe_int (pe_op op_mod (pv 3) pe_int)) (pa_cons (pe_op op_mod (pv 3) pe_int) (pa_cons (pe_tup (pa_cons pe_str (pa_cons pe_non pa_nil))) pa_nil)))) pa_nil))) (pe_op op_mod (pv 3) pe_int) (fun _ _ => rfl)) pa_nil)))) (pss_one (ps_if (pt_cmpR op_eq (pv 4) pe_str (nomark _))
      (pss_one (ps_set (i := 7) scLRecord.nd rfl (Or.inl rfl) (pe_lst (pa_cons (pv 5) (pa_cons (pe_op op_add pe_int (pe_op op_mod (pv 3) pe_int)) pa_nil))))) (pss_one (ps_if (pt_cmpR op_eq (pv 4) pe_str (nomark _))
      (pss_one (ps_set (i := 7) scLRecord.nd rfl (Or.inl rfl) (pe_lst (pa_cons (pv 5) (pa_cons (pe_cmpR op_eq (pe_op op_mod (pv 3) pe_int) pe_int (nomark _)) pa_nil))))) (pss_one (ps_if (pt_cmpR op_eq (pv 4) pe_str (nomark _))
      (pss_one (ps_set (i := 7) scLRecord.nd rfl (Or.inl rfl) (pe_lst (pa_cons (pv 5) (pa_cons (pe_op op_mod (pv 3) pe_int) (pa_cons (pv 2) pa_nil)))))) (pss_one (ps_if (pt_cmpR op_eq (pv 4) pe_str (nomark _))
      (pss_one (ps_set (i := 7) scLRecord.nd rfl (Or.inl rfl) (pe_lst (pa_cons (pv 5) (pa_cons (pe_op op_mod (pv 3) pe_int) pa_nil))))) (pss_one (ps_if (pt_cmpR op_eq (pv 4) pe_str (nomark _))
      (pss_one (ps_set (i := 7) scLRecord.nd rfl (Or.inl rfl) (pe_lst (pa_cons (pv 5) (pa_cons (pe_op op_add pe_int (pe_op op_mod (pv 3) (pe_callB (call_max2 rfl) (by rfl) mm (by decide +kernel) (pa_cons pe_int (pa_cons (pe_op op_sub (pv 0) pe_int) pa_nil))))) pa_nil))))) (pss_one (ps_if (pt_cmpR op_eq (pv 4) pe_str (nomark _))
      (pss_one (ps_set (i := 7) scLRecord.nd rfl (Or.inl rfl) (pe_lst (pa_cons (pv 5) (pa_cons (pv 6) pa_nil))))) (pss_one (ps_if (pt_cmpR op_eq (pv 4) pe_str (nomark _))
      (pss_one (ps_set (i := 7) scLRecord.nd rfl (Or.inl rfl) (pe_lst (pa_cons (pv 5) (pa_cons (pe_op op_mod (pv 3) pe_int) (pa_cons (pe_ix ix_list (pe_lst (pa_cons (pv 6) (pa_cons pe_non pa_nil))) (pe_op op_mod (pe_op op_fdiv (pv 2) pe_int) pe_int) (fun _ _ => rfl)) pa_nil)))))) pss_nil)))))))))))))))
      (pss_cons (ps_set (i := 8) scLRecord.nd rfl (Or.inl rfl) (pe_op op_mul (pe_callTy call_int1 (by rfl) mi (by decide +kernel) (pa_cons (pe_cmpR op_ne (pv 4) pe_str (nomark _)) pa_nil)) (pe_op op_add pe_int (pe_op op_mod (pv 2) pe_int))))
      (pss_one (ps_ret (pe_call GM.ok hr (by rfl) GM.mg GM.kp GM.bd .nil passL (pa_cons (pv 0) (pa_cons (pv 4) (pa_cons (pe_op op_mod (pe_op op_fdiv (pv 1) pe_int) pe_int) (pa_cons (pe_op op_add pe_int (pe_op op_mod (pe_op op_fdiv (pv 2) pe_int) pe_int)) (pa_cons (pv 8) (pa_cons (pv 7) pa_nil)))))))))))))))), ?_⟩
    have hkl : nu % 12 < kindsL.length := Nat.mod_lt _ (by decide)
    refine ⟨_, rfl, _, _, rfl, rfl, (by show (0:Int) < _; decide), aK, _, _, V.str (kindsL[nu % 12]), rfl, rfl, R.sK H, atI_nat (get_map (f := V.str) (List.getElem?_eq_getElem hkl)), ?_⟩
    have hk0 : kindsL[nu % 12] ∈ kindsL := List.getElem_mem hkl
    generalize kindsL[nu % 12] = k0 at hk0
    refine ⟨fun σ' H' => ∃ k, σ' = [some (.int (o : Int)), some (.int (nu : Int)), some (.int (pk : Int)), some (.int (ot : Int)), some (.str k), none, none, none, none] ∧ Same H H' ∧ k ∈ kindsL ∧ (o = 1 → k = "mark" ∨ k = "make"), ?_, ?_⟩
    · refine ⟨_, rfl, rfl, _, rfl, ?_⟩
      by_cases h1 : o = 1
      · subst h1
        rw [decide_eq_true (show V.int ((1 : Nat) : Int) = V.int 1 from rfl)]
        refine iteT ⟨by show 2 ≤ sizeLine; decide, fun l hl => ⟨_, rfl, _, _, rfl, rfl, (by show (0:Int) < _; decide), l, _, _, _, rfl, rfl, SqL.of upd_same, atI_nat (j := nu % 2) (pick2 _ _ _), ?_⟩⟩
        refine ⟨if nu % 2 = 0 then "mark" else "make", ?_, same_new hl, ?_, ?_⟩
        · split <;> rfl
        · split <;> decide
        · intro _; split <;> simp
      · rw [decide_eq_false (show ¬ V.int (o : Int) = V.int 1 from fun z => h1 (by have := V.int.inj z; omega))]
        exact iteF ⟨k0, rfl, Same.refl _, hk0, fun e => absurd e h1⟩
    rintro σ1 H1 ⟨k, rfl, s1, hk, hk1⟩
    -- space, way, fields
    refine ⟨_, rfl, _, _, rfl, rfl, (by show (0:Int) < _; decide), _, _, rfl, rfl, ?_⟩
    refine ⟨by show 2 ≤ sizeLine; decide, fun lw hlw => ⟨_, rfl, _, _, rfl, rfl, (by show (0:Int) < _; decide), lw, _, _, _, rfl, rfl, SqL.of upd_same, atI_nat (j := ot % 2) (pick2 _ _ _), ?_⟩⟩
    have s2 := s1.trans (same_new (o := .lst [V.str "write", V.str "alone"]) hlw)
    generalize upd H1 lw (.lst [V.str "write", V.str "alone"]) = H2 at s2
    refine ⟨_, rfl, by show 1 ≤ sizeLine; decide, fun lf hlf => ?_⟩
    have s3 := s2.trans (same_new (o := .lst [V.int (1 + (pk : Int) % 3)]) hlf)
    have hl0 : upd H2 lf (.lst [V.int (1 + (pk : Int) % 3)]) lf = some (.lst [V.int (1 + (pk : Int) % 3)]) := upd_same
    generalize upd H2 lf (.lst [V.int (1 + (pk : Int) % 3)]) = H3 at s3 hl0
    obtain ⟨w, hw, ew⟩ : ∃ w : Str, (w = "write" ∨ w = "alone") ∧ (if ot % 2 = 0 then V.str "write" else V.str "alone") = .str w := by
      split
      · exact ⟨_, .inl rfl, rfl⟩
      · exact ⟨_, .inr rfl, rfl⟩
    rw [ew]
    have hn1 : 1 ≤ 1 + (pk : Int) % 3 := by omega
    have hn8 : 1 + (pk : Int) % 3 ≤ 8 := by omega
    dsimp only
    generalize 1 + (pk : Int) % 3 = n at hl0 hn1 hn8 ⊢
    refine ⟨fun σ' H' => ∃ (b : Bd) (a : Addr) (ys : List V), σ' = [some (.int (o : Int)), some (.int (nu : Int)), some (.int (pk : Int)), some (.int (ot : Int)), some (.str (kindS b)), some (.int n), some (.str w), some (.ref a), none] ∧ Same H H' ∧ H' a = some (.lst ys) ∧ DpAll K H' ys (fldD b) ∧ BdOk b ∧ FOk (o : Int) b, ?_, ?_⟩
    · have one : ∀ b : Bd, k = kindS b → fldD b = [.int n] → BdOk b → FOk (o : Int) b → (∃ (b : Bd) (a : Addr) (ys : List V), [some (V.int (o : Int)), some (.int (nu : Int)), some (.int (pk : Int)), some (.int (ot : Int)), some (.str k), some (.int n), some (.str w), some (.ref lf), none] = [some (V.int (o : Int)), some (.int (nu : Int)), some (.int (pk : Int)), some (.int (ot : Int)), some (.str (kindS b)), some (.int n), some (.str w), some (.ref a), none] ∧ Same H H3 ∧ H3 a = some (.lst ys) ∧ DpAll K H3 ys (fldD b) ∧ BdOk b ∧ FOk (o : Int) b) := by
        intro b e e1 e2 e3
        subst e
        exact ⟨b, lf, _, rfl, s3, hl0, by rw [e1]; exact .cons (.int _) .nil, e2, e3⟩
      have fns : ∀ x : Int, betwD 1 8 (.int n) = true := fun _ => by simp [betwD, hn1, hn8]
      have hmem := hk
      simp only [kindsL, List.mem_cons, List.not_mem_nil, or_false] at hmem
      rcases hmem with rfl | rfl | rfl | rfl | rfl | rfl | rfl | rfl | rfl | rfl | rfl | rfl
      · -- mark
        refine elT rfl ?_
        refine ⟨_, rfl, _, _, rfl, rfl, (by show (0:Int) < _; decide), _, _, rfl, rfl, _, rfl, _, _, rfl, rfl, (by show (0:Int) < _; decide), by show 2 ≤ sizeLine; decide, fun t1 ht1 => ⟨by show 3 ≤ sizeLine; decide, fun t2 ht2 => ⟨by show 2 ≤ sizeLine; decide, fun l1 hl1 => ?_⟩⟩⟩
        refine ⟨_, rfl, _, _, rfl, rfl, (by show (0:Int) < _; decide), l1, _, _, _, rfl, rfl, SqL.of upd_same, atI_nat (j := ot % 2) (pick2 _ _ _), by show 1 ≤ sizeLine; decide, fun l2 hl2 => ?_⟩
        refine ⟨.mark (if ot % 2 = 0 then .none else .tuple [.int (1 + (ot : Int) % 5), .int ((ot : Int) % 3), .tuple [.str "ok", .none]]), l2, _, rfl, s3.trans ((((same_new ht1).trans (same_new ht2)).trans (same_new hl1)).trans (same_new hl2)), upd_same, ?_, ?_, ?_⟩
        · refine .cons ?_ .nil
          split
          · exact .non
          · refine dp_same ((same_new hl1).trans (same_new hl2)) _ _ (.tup (SqT.of upd_same) (.cons (.int _) (.cons (.int _) (.cons (.tup (SqT.of (same_new ht2 _ _ upd_same)) (.cons (.str _) (.cons .non .nil))) .nil))))
        · split
          · exact sm_non
          · exact ⟨by simp [PyData.canLay0, PyData.canLayAll0]; decide +kernel, by simp [PyData.depth, PyData.depthAll], by simp [noL, noLAll]⟩
        · refine fds_cons (fd_told ?_) rfl
          split
          · rfl
          · have a1 : (1 : Int) ≤ 1 + (ot : Int) % 5 := by omega
            have a2 : 0 ≤ (ot : Int) % 3 := by omega
            simp [noneB, toldD, atLeastD, pairB, a1, a2]
      · -- make
        refine elF rfl (by decide) (elT rfl ?_)
        refine ⟨_, rfl, _, rfl, _, _, rfl, rfl, (by show (0:Int) < _; decide), _, _, rfl, rfl, by show 2 ≤ sizeLine; decide, fun l2 hl2 => ?_⟩
        refine ⟨.make n (1 + (ot : Int) % 64), l2, _, rfl, s3.trans (same_new hl2), upd_same, .cons (.int _) (.cons (.int _) .nil), trivial, ?_⟩
        exact fds_cons (fd_ns hn1 hn8) (fds_cons (fd_size (by omega) (by omega)) rfl)
      · -- remove
        refine elF rfl (by decide) (elF rfl (by decide) (elF rfl (by decide) (elF rfl (by decide) (elF rfl (by decide) (elF rfl (by decide) (elF rfl (by decide) (elF rfl (by decide) ?_)))))))
        exact one (.remove n) rfl rfl trivial (fds_cons (fd_ns hn1 hn8) rfl)
      · -- write
        refine elF rfl (by decide) (elF rfl (by decide) (elF rfl (by decide) (elT rfl ?_)))
        refine ⟨_, rfl, _, rfl, _, _, rfl, rfl, (by show (0:Int) < _; decide), _, rfl, by show 3 ≤ sizeLine; decide, fun l2 hl2 => ?_⟩
        refine ⟨.write n ((ot : Int) % 5) pk, l2, _, rfl, s3.trans (same_new hl2), upd_same, .cons (.int _) (.cons (.int _) (.cons (.int _) .nil)), trivial, ?_⟩
        exact fds_cons (fd_ns hn1 hn8) (fds_cons (fd_place (by omega) (by omega)) (fds_cons fd_value rfl))
      · -- trim
        refine elF rfl (by decide) (elF rfl (by decide) (elF rfl (by decide) (elF rfl (by decide) (elT rfl ?_))))
        refine ⟨_, rfl, _, rfl, _, _, rfl, rfl, (by show (0:Int) < _; decide), by show 2 ≤ sizeLine; decide, fun l2 hl2 => ?_⟩
        refine ⟨.trim n ((ot : Int) % 5), l2, _, rfl, s3.trans (same_new hl2), upd_same, .cons (.int _) (.cons (.int _) .nil), trivial, ?_⟩
        exact fds_cons (fd_ns hn1 hn8) (fds_cons (fd_place (by omega) (by omega)) rfl)
      · -- snap
        refine elF rfl (by decide) (elF rfl (by decide) (elF rfl (by decide) (elF rfl (by decide) (elF rfl (by decide) (elF rfl (by decide) (elF rfl (by decide) (elF rfl (by decide) ?_)))))))
        exact one (.snap n) rfl rfl trivial (fds_cons (fd_ns hn1 hn8) rfl)
      · -- drop
        have h2 : 2 ≤ o := by
          rcases Nat.lt_or_ge o 2 with h | h
          · exact absurd (hk1 (by omega)) (by decide)
          · exact h
        refine elF rfl (by decide) (elF rfl (by decide) (elF rfl (by decide) (elF rfl (by decide) (elF rfl (by decide) (elT rfl ?_)))))
        have hmx : (if (o : Int) - 1 > 1 then (o : Int) - 1 else 1) = (o : Int) - 1 := by split <;> omega
        refine ⟨_, rfl, _, rfl, _, rfl, _, _, rfl, rfl, _, _, rfl, ?_⟩
        rw [hmx]
        refine ⟨_, _, rfl, rfl, by omega, _, _, rfl, rfl, by show 2 ≤ sizeLine; decide, fun l2 hl2 => ?_⟩
        refine ⟨.drop n (1 + (ot : Int) % ((o : Int) - 1)), l2, _, rfl, s3.trans (same_new hl2), upd_same, .cons (.int _) (.cons (.int _) .nil), trivial, ?_⟩
        have a1 := Int.emod_nonneg (ot : Int) (show (o : Int) - 1 ≠ 0 by omega)
        have a2 := Int.emod_lt_of_pos (ot : Int) (show 0 < (o : Int) - 1 by omega)
        exact fds_cons (fd_ns hn1 hn8) (fds_cons (fd_snap (by omega) (by omega)) rfl)
      · -- register
        refine elF rfl (by decide) (elF rfl (by decide) (elF rfl (by decide) (elF rfl (by decide) (elF rfl (by decide) (elF rfl (by decide) (elF rfl (by decide) (elF rfl (by decide) ?_)))))))
        exact one (.register n) rfl rfl trivial (fds_cons (fd_ns hn1 hn8) rfl)
      · -- leave
        refine elF rfl (by decide) (elF rfl (by decide) (elT rfl ?_))
        refine ⟨_, rfl, _, rfl, _, _, rfl, rfl, (by show (0:Int) < _; decide), rfl, by show 2 ≤ sizeLine; decide, fun l2 hl2 => ?_⟩
        refine ⟨.leave n (decide (V.int ((ot : Int) % 2) = V.int 0)), l2, _, rfl, s3.trans (same_new hl2), upd_same, .cons (.int _) (.cons (.bl _) .nil), trivial, ?_⟩
        exact fds_cons (fd_ns hn1 hn8) (fds_cons fd_held rfl)
      · -- reserve
        refine elF rfl (by decide) (elF rfl (by decide) (elF rfl (by decide) (elF rfl (by decide) (elF rfl (by decide) (elF rfl (by decide) (elT rfl ?_))))))
        refine ⟨_, rfl, _, rfl, by show 2 ≤ sizeLine; decide, fun l2 hl2 => ?_⟩
        refine ⟨.reserve n w, l2, _, rfl, s3.trans (same_new hl2), upd_same, .cons (.int _) (.cons (.str _) .nil), hw, ?_⟩
        exact fds_cons (fd_ns hn1 hn8) (fds_cons (fd_way hw) rfl)
      · -- release
        refine elF rfl (by decide) (elF rfl (by decide) (elF rfl (by decide) (elF rfl (by decide) (elF rfl (by decide) (elF rfl (by decide) (elF rfl (by decide) (elF rfl (by decide) ?_)))))))
        exact one (.release n) rfl rfl trivial (fds_cons (fd_ns hn1 hn8) rfl)
      · -- preempt
        refine elF rfl (by decide) (elF rfl (by decide) (elF rfl (by decide) (elF rfl (by decide) (elF rfl (by decide) (elF rfl (by decide) (elF rfl (by decide) (elT rfl ?_)))))))
        refine ⟨_, rfl, _, rfl, _, _, rfl, rfl, (by show (0:Int) < _; decide), _, rfl, by show 2 ≤ sizeLine; decide, fun l1 hl1 => ?_⟩
        refine ⟨_, rfl, _, _, rfl, rfl, ⟨by decide, by decide⟩, _, _, rfl, rfl, (by show (0:Int) < _; decide), l1, _, _, _, rfl, rfl, SqL.of upd_same, atI_nat (j := pk / 3 % 2) (pick2 _ _ _), by show 3 ≤ sizeLine; decide, fun l2 hl2 => ?_⟩
        refine ⟨.preempt n ((ot : Int) % 4) (if pk / 3 % 2 = 0 then some w else none), l2, _, rfl, s3.trans ((same_new hl1).trans (same_new hl2)), upd_same, ?_, ?_, ?_⟩
        · refine .cons (.int _) (.cons (.int _) (.cons ?_ .nil))
          split
          · exact .str _
          · exact .non
        · split
          · exact hw
          · trivial
        · have b0 : 0 ≤ (ot : Int) % 4 := by omega
          have b3 : (ot : Int) % 4 ≤ 3 := by omega
          split
          · exact fds_cons (fd_ns hn1 hn8) (fds_cons (fd_victim b0 b3) (fds_cons (fd_wayS hw) rfl))
          · exact fds_cons (fd_ns hn1 hn8) (fds_cons (fd_victim b0 b3) (fds_cons fd_wayN rfl))
    rintro σ4 H4 ⟨b, a, ys, rfl, s4', ha, hd, hb, hf⟩
    refine ⟨_, rfl, rfl, .inr ⟨_, rfl, ?_⟩⟩
    refine ⟨_, rfl, _, _, rfl, rfl, (by show (0:Int) < _; decide), _, _, rfl, rfl, _, _, rfl, rfl, .inl ⟨by split <;> omega, by omega⟩, ?_⟩
    have hrec : recD (.tuple (.int (o : Int) :: .str (kindS b) :: .int ((nu : Int) / 12 % 4) :: .int (1 + (pk : Int) / 7 % 6) :: .int ((if (!decide (V.str (kindS b) = V.str "mark")) = true then 1 else 0) * (1 + (pk : Int) % 7)) :: fldD b)) = true := by
      refine rec_ok (by omega) (by omega) (by omega) (by omega) ?_ hf
      unfold counterD
      by_cases e : kindS b = "mark"
      · rw [if_pos e, e, str_eqT]
        simp [betwD]
      · rw [if_neg e, str_eqF e]
        simp [atLeastD]
        omega
    refine ⟨_, rfl, _, rfl, _, rfl, _, _, rfl, rfl, ⟨by decide, by decide⟩, _, _, rfl, rfl, (by show (0:Int) < _; decide), _, rfl, _, _, rfl, rfl, ⟨by decide, by decide⟩, _, _, rfl, rfl, (by show (0:Int) < _; decide), _, _, rfl, rfl, _, rfl, _, rfl, ?_⟩
    refine ⟨_, _, _, _, _, a, ys, _, _, _, _, _, _, rfl, ha, ?_, .int _, .str _, .int _, .int _, .int _, hd, fun hb => ?_, fun _ t H' s' ht => ?_⟩
    · have := dpAll_len hd
      have := fld_len b
      omega
    · rw [hrec] at hb; cases hb
    · exact q t ⟨o, _, _, _, b⟩ H' (s4'.trans s') ⟨ys, SqT.of ht, dpAll_same s' _ _ hd⟩ rfl hb
end
end Sg

set_option Elab.async false
set_option linter.all false
set_option maxRecDepth 100000
set_option maxHeartbeats 4000000
namespace Sg
open PySem PySem.Spec PyProof.Rows L2
/-! ### topics; dicts of topics -/
def TopK : List Key → Prop
  | [.inr _, .inl _] => True
  | [.inr _, .inl _, .inl _] => True
  | _ => False
def keyD : Key → PyData
  | .inl n => .int n
  | .inr s => .str s
def topD (k : List Key) : PyData := .tuple (k.map keyD)
theorem topK_cases {k : List Key} (h : TopK k) : (∃ s n, k = [.inr s, .inl n]) ∨ ∃ s n m, k = [.inr s, .inl n, .inl m] := by
  match k, h with
  | [.inr s, .inl n], _ => exact .inl ⟨s, n, rfl⟩
  | [.inr s, .inl n, .inl m], _ => exact .inr ⟨s, n, m, rfl⟩
theorem dp_key {K : PySem.W.Frag} {H : Hp} : ∀ k : Key, Dp K H (kV k) (keyD k)
  | .inl n => .int n
  | .inr s => .str s
theorem dp_keys {K : PySem.W.Frag} {H : Hp} : ∀ k : List Key, DpAll K H (k.map kV) (k.map keyD)
  | [] => .nil
  | k :: r => .cons (dp_key k) (dp_keys r)
theorem dp_top {K : PySem.W.Frag} {H : Hp} {a : Addr} {k : List Key} (h : H a = some (.tup (k.map kV))) : Dp K H (.ref a) (topD k) := .tup (SqT.of h) (dp_keys k)
theorem top_alike {k j : List Key} (h : TopK k) (h' : TopK j) : PySem.W.alike (topD k) (topD j) = true := by
  rcases topK_cases h with ⟨s, n, rfl⟩ | ⟨s, n, m, rfl⟩ <;> rcases topK_cases h' with ⟨s', n', rfl⟩ | ⟨s', n', m', rfl⟩ <;> simp [topD, keyD, PySem.W.alike, PySem.W.alikeAll]
theorem top_depth {k : List Key} (h : TopK k) : (topD k).depth ≤ 1 := by
  rcases topK_cases h with ⟨s, n, rfl⟩ | ⟨s, n, m, rfl⟩ <;> simp [topD, keyD, PyData.depth, PyData.depthAll]
/-- sorted(xs), xs a list of topics: a new list of the same ones -/
def rSortK (K : PySem.W.Frag) : List V → Hp → VK → Prop := fun vs H Q => ∃ (a : Addr) (ts : List (Addr × List Key)), vs = [.ref a] ∧ SqL K H a (ts.map fun t => V.ref t.1) ∧ (∀ t ∈ ts, H t.1 = some (.tup (t.2.map kV)) ∧ TopK t.2) ∧
  ∀ (ts' : List (Addr × List Key)) (p : Addr), ts'.Perm ts → H p = none → Q (.ref p) (upd H p (.lst (ts'.map fun t => V.ref t.1)))
theorem ref_vals {ts : List (Addr × List Key)} : ∀ {vs : List Value}, Vals (ts.map fun t => V.ref t.1) vs → PySem.W.EachIs (fun v (b : Addr × List Key) => v = Value.ref b.1) vs ts := by
  induction ts with
  | nil => intro vs r; cases r; exact .nil
  | cons t ts ih =>
    intro vs r
    cases r with
    | cons r1 r2 => exact .cons r1 (ih r2)
theorem each_refs : ∀ {vs : List Value} {ts : List (Addr × List Key)}, PySem.W.EachIs (fun v (b : Addr × List Key) => v = Value.ref b.1) vs ts → Vals (ts.map fun t => V.ref t.1) vs
  | _, _, .nil => .nil
  | _, _, .cons r t => .cons r (each_refs t)
theorem each_readsK {X : Cx} {pins : List (Addr × Obj)} {σ : L2.St} {H : Hp} {s : Shared} (I : Inv X pins σ H s) : ∀ {ts : List (Addr × List Key)} {vs : List Value}, Vals (ts.map fun t => V.ref t.1) vs → (∀ t ∈ ts, H t.1 = some (.tup (t.2.map kV)) ∧ TopK t.2) →
    PySem.W.EachIs (fun v (b : Addr × List Key) => ∃ as, Reads s.heap v (topD b.2) as) vs ts
  | [], _, .nil, _ => .nil
  | t :: ts, _, .cons r q, h => .cons (Dp.reads I _ _ _ (dp_top (h t List.mem_cons_self).1) r) (each_readsK I q fun u hu => h u (List.mem_cons_of_mem _ hu))
section
variable {X : Cx}
theorem call_sortK (hu : X.A.units + 64 < cLine) : CallR X (.builtin "sorted") (rSortK X.K) := by
  intro pins s σ H vs us Q I r h
  obtain ⟨a, ts, rfl, hs, ht, q⟩ := h
  obtain ⟨its, rv, hl, hz⟩ := I.list hs
  obtain ⟨u, rfl, ru⟩ := vals1 r
  obtain rfl : u = Value.ref a := ru
  rw [List.length_map] at hz
  refine PySem.W.sorted_data (enc := fun b : Addr × List Key => topD b.2) (R := fun v (b : Addr × List Key) => v = Value.ref b.1) hl.isList (ref_vals rv) (each_readsK I rv ht) ?_ ?_ hz (fun b hb => ?_) fun out ho eo => ?_
  · intro d hd d' hd'
    obtain ⟨b, hb, rfl⟩ := List.mem_map.mp hd
    obtain ⟨b', hb', rfl⟩ := List.mem_map.mp hd'
    exact top_alike (ht b hb).2 (ht b' hb').2
  · refine .inl fun d hd => ?_
    obtain ⟨b, hb, rfl⟩ := List.mem_map.mp hd
    rcases topK_cases (ht b hb).2 with ⟨s, n, e⟩ | ⟨s, n, m, e⟩ <;> (show ∃ x r, topD b.2 = .tuple (x :: r)) <;> rw [e] <;> exact ⟨_, _, rfl⟩
  · have := top_depth (ht b hb).2
    show X.A.units + 2 + (topD b.2).depth < cLine
    omega
  · obtain ⟨ep, he'⟩ := PyProof.Rows.sortedAll_at s.heap its out.toArray
    have hv := each_refs eo
    refine ⟨.ref _, upd H (s.heap.objs.size + 1) (.lst _), I.laid (t' := s.toks) (fun _ _ => PyProof.Rows.sortedAll_old) (Nat.le_succ _) ⟨?_, out, ep, hv, he'⟩, rfl, q _ _ (List.mergeSort_perm _ _) (I.hok.fresh (Nat.le_succ _))⟩
    rw [List.length_map, List.length_mergeSort]; exact hz
end
end Sg

set_option Elab.async false
set_option linter.all false
set_option maxRecDepth 100000
set_option maxHeartbeats 8000000
namespace Sg
open PySem PySem.Spec PyProof.Rows L2
/-! ### what is kept -/
structure TK (H H' : Hp) : Prop where
  t : ∀ a xs, H a = some (.tup xs) → H' a = some (.tup xs)
  f : ∀ a o xs, H a = some (.frz o (.tup xs)) → H' a = some (.frz o (.tup xs))
theorem TK.refl (H : Hp) : TK H H := ⟨fun _ _ h => h, fun _ _ _ h => h⟩
theorem TK.trans {H H1 H2 : Hp} (a : TK H H1) (b : TK H1 H2) : TK H H2 := ⟨fun x y h => b.t _ _ (a.t _ _ h), fun x y z h => b.f _ _ _ (a.f _ _ _ h)⟩
theorem TK.of {H H' : Hp} (s : Same H H') : TK H H' := ⟨fun _ _ h => s _ _ h, fun _ _ _ h => s _ _ h⟩
theorem TK.updT {H : Hp} {d : Addr} {kvs : List (List Key × V)} {o : HO} (h : H d = some (.dT kvs)) : TK H (upd H d o) := by
  refine ⟨fun a l e => ?_, fun a b l e => ?_⟩
  · rw [upd_ne (fun (z : a = d) => by rw [z, h] at e; cases e)]; exact e
  · rw [upd_ne (fun (z : a = d) => by rw [z, h] at e; cases e)]; exact e
theorem TK.updF {H : Hp} {d : Addr} {od : Obj} {kvs : List (List Key × V)} {o : HO} (h : H d = some (.frz od (.dT kvs))) : TK H (upd H d o) := by
  refine ⟨fun a l e => ?_, fun a b l e => ?_⟩
  · rw [upd_ne (fun (z : a = d) => by rw [z, h] at e; cases e)]; exact e
  · rw [upd_ne (fun (z : a = d) => by rw [z, h] at e; cases e)]; exact e
theorem TK.updL {H : Hp} {d : Addr} {xs : List V} {o : HO} (h : H d = some (.lst xs)) : TK H (upd H d o) := by
  refine ⟨fun a l e => ?_, fun a b l e => ?_⟩
  · rw [upd_ne (fun (z : a = d) => by rw [z, h] at e; cases e)]; exact e
  · rw [upd_ne (fun (z : a = d) => by rw [z, h] at e; cases e)]; exact e
def Off (xs : List Addr) (H H' : Hp) : Prop := ∀ b o, H b = some o → b ∉ xs → H' b = some o
theorem Off.refl {xs : List Addr} (H : Hp) : Off xs H H := fun _ _ h _ => h
theorem Off.trans {xs : List Addr} {H H1 H2 : Hp} (a : Off xs H H1) (b : Off xs H1 H2) : Off xs H H2 := fun x o h n => b _ _ (a _ _ h n) n
theorem Off.of {xs : List Addr} {H H' : Hp} (s : Same H H') : Off xs H H' := fun _ _ h _ => s _ _ h
theorem Off.upd {xs : List Addr} {H : Hp} {p : Addr} {o : HO} (h : p ∈ xs) : Off xs H (upd H p o) := fun b u e n => by
  rw [upd_ne (fun (z : b = p) => n (by rw [z]; exact h))]; exact e
theorem sqT_tk {K : PySem.W.Frag} {H H' : Hp} {a : Addr} {xs : List V} (h : SqT K H a xs) (s : TK H H') : SqT K H' a xs := by
  rcases h with (h | ⟨o, h⟩) | h
  · exact .inl (.inl (s.t _ _ h))
  · exact .inl (.inr ⟨o, s.f _ _ _ h⟩)
  · exact .inr h
mutual
theorem dp_tk {K : PySem.W.Frag} {H H' : Hp} (s : TK H H') : ∀ (d : PyData) (x : V), noL d = true → Dp K H x d → Dp K H' x d
  | .none, _, _, .non => .non
  | .bool b, _, _, .bl _ => .bl b
  | .int i, _, _, .int _ => .int i
  | .str z, _, _, .str _ => .str z
  | .list ds, _, n, h => by simp [noL] at n
  | .tuple ds, _, n, h => by
    cases h with
    | tup hs ha => exact .tup (sqT_tk hs s) (dpAll_tk s ds _ (by simpa [noL] using n) ha)
  | .dict _, _, n, h => by simp [noL] at n
theorem dpAll_tk {K : PySem.W.Frag} {H H' : Hp} (s : TK H H') : ∀ (ds : List PyData) (xs : List V), noLAll ds = true → DpAll K H xs ds → DpAll K H' xs ds
  | [], _, _, .nil => .nil
  | d :: ds, _, n, h => by
    cases h with
    | cons a b =>
      have n' : noL d = true ∧ noLAll ds = true := by simpa [noLAll] using n
      exact .cons (dp_tk s d _ n'.1 a) (dpAll_tk s ds _ n'.2 b)
end
/-! ### a dict of topics, as a function -/
abbrev KF := List Key → Option PyData
def RO (K : PySem.W.Frag) (H : Hp) : Option V → Option PyData → Prop
  | none, none => True
  | some v, some e => Dp K H v e ∧ Sm e
  | _, _ => False
theorem RO.tk {K : PySem.W.Frag} {H H' : Hp} (s : TK H H') : ∀ {o : Option V} {u : Option PyData}, RO K H o u → RO K H' o u
  | none, none, _ => trivial
  | some v, some e, h => ⟨dp_tk s _ _ h.2.2.2 h.1, h.2⟩
theorem RO.some {K : PySem.W.Frag} {H : Hp} {o : Option V} {e : PyData} (h : RO K H o (some e)) : ∃ v, o = some v ∧ Dp K H v e ∧ Sm e := by
  cases o with
  | none => exact h.elim
  | some v => exact ⟨v, rfl, h⟩
theorem RO.none {K : PySem.W.Frag} {H : Hp} {o : Option V} (h : RO K H o none) : o = Option.none := by
  cases o with
  | none => rfl
  | some v => exact h.elim
theorem RO.is {K : PySem.W.Frag} {H : Hp} {o : Option V} {u : Option PyData} (h : RO K H o u) : o.isSome = u.isSome := by
  cases o <;> cases u <;> first | rfl | exact h.elim
structure DTk (K : PySem.W.Frag) (H : Hp) (kvs : List (List Key × V)) (f : KF) (n : Nat) : Prop where
  len : kvs.length ≤ n
  rel : ∀ k, RO K H (valV kvs k) (f k)
  top : ∀ k, (f k).isSome = true → TopK k
theorem DTk.tk {K : PySem.W.Frag} {H H' : Hp} {kvs : List (List Key × V)} {f : KF} {n : Nat} (h : DTk K H kvs f n) (s : TK H H') : DTk K H' kvs f n := ⟨h.len, fun k => (h.rel k).tk s, h.top⟩
theorem DTk.mono {K : PySem.W.Frag} {H : Hp} {kvs : List (List Key × V)} {f : KF} {n m : Nat} (h : DTk K H kvs f n) (l : n ≤ m) : DTk K H kvs f m := ⟨Nat.le_trans h.len l, h.rel, h.top⟩
def DTat (K : PySem.W.Frag) (H : Hp) (d : Addr) (f : KF) (n : Nat) : Prop := ∃ kvs, H d = some (.dT kvs) ∧ DTk K H kvs f n
def setF (f : KF) (k : List Key) (e : PyData) : KF := fun j => if j = k then some e else f j
theorem mem_valV {κ : Type} [DecidableEq κ] {k : κ} {v : V} : ∀ {kvs : List (κ × V)}, (k, v) ∈ kvs → (valV kvs k).isSome = true
  | [], h => nomatch h
  | p :: r, h => by
    by_cases e : p.1 = k
    · rw [valV_pos e]; rfl
    · rw [valV_neg e]
      rcases List.mem_cons.mp h with q | q
      · exact absurd (by rw [← q]) e
      · exact mem_valV q
theorem valV_mem {κ : Type} [DecidableEq κ] {k : κ} : ∀ {kvs : List (κ × V)}, (valV kvs k).isSome = true → ∃ v, (k, v) ∈ kvs
  | [], h => by cases h
  | p :: r, h => by
    by_cases e : p.1 = k
    · subst e; exact ⟨p.2, List.mem_cons_self⟩
    · rw [valV_neg e] at h
      obtain ⟨v, hv⟩ := valV_mem h
      exact ⟨v, List.mem_cons_of_mem _ hv⟩
theorem putK_old {κ : Type} [DecidableEq κ] {kvs : List (κ × V)} {k : κ} {v : V} (h : (valV kvs k).isSome = true) : (putK kvs k v).length = kvs.length := by
  unfold putK
  rw [valV_any, if_pos h, List.length_map]
theorem DTk.put {K : PySem.W.Frag} {H : Hp} {kvs : List (List Key × V)} {f : KF} {n : Nat} {k : List Key} {v : V} {e : PyData} (h : DTk K H kvs f n) (hv : Dp K H v e) (sm : Sm e) (tk : TopK k) : DTk K H (putK kvs k v) (setF f k e) (n + 1) := by
  refine ⟨Nat.le_trans (length_putK _ _ _) (Nat.succ_le_succ h.len), fun j => ?_, fun j hj => ?_⟩
  · rw [valV_put]
    unfold setF
    by_cases z : j = k
    · rw [if_pos z, if_pos z]; exact ⟨hv, sm⟩
    · rw [if_neg z, if_neg z]; exact h.rel j
  · unfold setF at hj
    by_cases z : j = k
    · rw [z]; exact tk
    · rw [if_neg z] at hj; exact h.top j hj
theorem DTk.put' {K : PySem.W.Frag} {H : Hp} {kvs : List (List Key × V)} {f : KF} {n : Nat} {k : List Key} {v : V} {e : PyData} (h : DTk K H kvs f n) (hv : Dp K H v e) (sm : Sm e) (hk : (f k).isSome = true) : DTk K H (putK kvs k v) (setF f k e) n := by
  have h2 := h.put hv sm (h.top k hk)
  refine ⟨?_, h2.rel, h2.top⟩
  rw [putK_old (by rw [(h.rel k).is]; exact hk)]
  exact h.len
/-- d[t] = v -/
theorem DTat.put {K : PySem.W.Frag} {H : Hp} {d b : Addr} {f : KF} {n : Nat} {k : List Key} {v : V} {e : PyData} {R : Hp → Prop} (h : DTat K H d f n) (hb : H b = some (.tup (k.map kV))) (hn : n ≤ 1000) (hv : Dp K H v e) (sm : Sm e) (tk : TopK k)
    (q : ∀ H', Off [d] H H' → TK H H' → DTat K H' d (setF f k e) (n + 1) → R H') : ∃ a H', V.ref d = V.ref a ∧ DPut H a (.ref b) v H' ∧ R H' := by
  obtain ⟨kvs, hd, h1⟩ := h
  have t := TK.updT (o := .dT (putK kvs k v)) hd
  exact ⟨d, _, rfl, DPut.t hd hb (small1000 (by have := h1.len; omega)), q _ (.upd (List.mem_singleton.mpr rfl)) t ⟨_, upd_same, (h1.put hv sm tk).tk t⟩⟩
theorem DTat.put' {K : PySem.W.Frag} {H : Hp} {d b : Addr} {f : KF} {n : Nat} {k : List Key} {v : V} {e : PyData} {R : Hp → Prop} (h : DTat K H d f n) (hb : H b = some (.tup (k.map kV))) (hn : n ≤ 1000) (hv : Dp K H v e) (sm : Sm e) (hk : (f k).isSome = true)
    (q : ∀ H', Off [d] H H' → TK H H' → DTat K H' d (setF f k e) n → R H') : ∃ a H', V.ref d = V.ref a ∧ DPut H a (.ref b) v H' ∧ R H' := by
  obtain ⟨kvs, hd, h1⟩ := h
  have t := TK.updT (o := .dT (putK kvs k v)) hd
  exact ⟨d, _, rfl, DPut.t hd hb (small1000 (by have := h1.len; omega)), q _ (.upd (List.mem_singleton.mpr rfl)) t ⟨_, upd_same, (h1.put' hv sm hk).tk t⟩⟩
theorem DTat.off {K : PySem.W.Frag} {H H' : Hp} {d : Addr} {f : KF} {n : Nat} {xs : List Addr} (h : DTat K H d f n) (o : Off xs H H') (t : TK H H') (nd : d ∉ xs) : DTat K H' d f n := by
  obtain ⟨kvs, hd, h1⟩ := h
  exact ⟨kvs, o _ _ hd nd, h1.tk t⟩
def hideB : List Key → Bool
  | .inr s :: _ => strIn s ["host", "told"]
  | _ => false
def nsK : List Key → Int
  | _ :: .inl n :: _ => n
  | _ => 0
theorem topK_0 {k : List Key} (h : TopK k) : ∃ s, (k.map kV)[0]? = some (V.str s) ∧ hideB k = strIn s ["host", "told"] := by
  rcases topK_cases h with ⟨s, n, rfl⟩ | ⟨s, n, m, rfl⟩ <;> exact ⟨s, rfl, rfl⟩
theorem topK_1 {k : List Key} (h : TopK k) : (k.map kV)[1]? = some (V.int (nsK k)) := by
  rcases topK_cases h with ⟨s, n, rfl⟩ | ⟨s, n, m, rfl⟩ <;> rfl
def goneF (f : KF) (one : Int) : KF := fun k => if (f k).isSome = true ∧ hideB k = false ∧ nsK k = one then some .none else f k
def spLRemove (K : PySem.W.Frag) : Sp := fun vs H Q _ => ∃ (d : Addr) (one : Int) (f : KF) (n : Nat), vs = [.ref d, .int one] ∧ DTat K H d f n ∧ n ≤ 1000 ∧
  ∀ H', Off [d] H H' → TK H H' → DTat K H' d (goneF f one) n → Q .non H'
section
variable {P : Program} {wrl : World} {K : PySem.W.Frag} {mg : Str → Option Value} {base : Heap} {f : Addr} {fd : FuncData}
abbrev LRM : List Str := ["state","one","topic","key"]
theorem scLRemove : FnScope LRM ["state","one"] (defScope sLRemove) := ⟨rfl, rfl, rfl, by decide +kernel, rfl, by decide +kernel, by decide +kernel⟩
theorem ok_lremove (F : Fun K "_law_remove" "_law_remove" sLRemove f fd) (ms : mg "sorted" = none) : FnOk P wrl K mg base CX0 1 f fd ["state","one"] (spLRemove K) := by
  refine F.ok scLRemove (fun vs H Q E h => ?_) (fun cdv A outer s H vs Q E hr h => ?_)
  · obtain ⟨d, one, g, n, rfl, _⟩ := h
    rfl
  · classical
    obtain ⟨d, one, g, n, rfl, ⟨kvs, hd, hk⟩, hn, q⟩ := h
    refine ⟨_, (pss_one (ps_for PassesOwn.never rfl (pi_list (pe_callB (call_sortK hr.units) (by rfl) ms (by decide +kernel) (pa_cons (pe_lock (pe_lc (own := [("key", 3)]) (g := gName 3) (tt := tTest (tOp (rIn K true) (tOp (rIxT K) (tVar 3) (tC (.int 0))) (tTup (tCons (tC (.str "host")) (tCons (tC (.str "told")) tNil))))) (te := tVar 3) (by rfl) scLRemove.nd (pi_keys (pv 0)) (blkOk_by (own := [("key", 3)]) (N := ["state", "one", "topic", "key"]) (sc := defScope sLRemove) (by decide +kernel)) (fun _ _ _ _ _ => pg_name (i := 3) scLRemove.nd rfl (Or.inl rfl)) (fun _ _ _ _ _ => pts_one (pt_cmpR op_notIn_seq (pe_ix ix_tup (pv 3) pe_int (fun _ _ => rfl)) (pe_tup (pa_cons pe_str (pa_cons pe_str pa_nil))) (by rfl))) (fun _ _ _ _ _ => by exact (pv 3)))) pa_nil))) (pg_name (i := 2) scLRemove.nd rfl (Or.inl rfl))
      (pss_one (ps_if (pt_cmpR op_eq (pe_ix ix_tup (pv 2) pe_int (fun _ _ => rfl)) (pv 1) (nomark _))
      (pss_one (ps_dput (hu_of hr) (pv 0) (pv 2) pe_non rfl)) pss_nil)))), ?_⟩
    refine ⟨d, _, hd, trivial, fun od => ⟨_, rfl, d, od, rfl, .inr ⟨kvs, upd_same, fun D hD => ?_⟩⟩⟩
    have hdn : D ≠ d := fun e => by
      rw [e, upd_same] at hD; cases hD
    have tk0 : TK H (upd H d (.frz od (.dT kvs))) := TK.updT hd
    refine lc_it walk_keysT (fun i H' => ∃ ts : List (Addr × List Key), H' d = some (.frz od (.dT kvs)) ∧ Off [d] H H' ∧ TK H H' ∧ H' D = some (.lst (ts.map fun t => V.ref t.1)) ∧ ts.map Prod.snd = ((kvs.take i).map Prod.fst).filter (fun k => !hideB k) ∧ ∀ t ∈ ts, H' t.1 = some (.tup (t.2.map kV)))
      ⟨[], ?_, ?_, ?_, upd_same, rfl, fun _ h => nomatch h⟩ (fun i H' _ ⟨_, h, _⟩ => h) ?_ ?_
    · rw [upd_ne (fun z => hdn z.symm)]; exact upd_same
    · exact (Off.upd (List.mem_singleton.mpr rfl)).trans (.of (same_new hD))
    · exact tk0.trans (.of (same_new hD))
    · rintro i x H1 _ hi ⟨ts, h1, h2, h3, h4, h5, h6⟩ ⟨rfl, k, v, qa, hki, rfl, hq⟩
      have tk : TopK k := hk.top k (by rw [← (hk.rel k).is]; exact mem_valV (List.mem_of_getElem? hki))
      obtain ⟨s0, e0, eh⟩ := topK_0 tk
      refine ⟨rfl, ?_⟩
      refine ⟨_, rfl, qa, _, _, _, rfl, rfl, SqT.of hq, atI_nat (j := 0) e0, by show 2 ≤ sizeLine; decide, fun t ht => ?_⟩
      have s2 := same_new (o := .tup [V.str "host", V.str "told"]) ht
      refine ⟨t, _, rfl, .inr (SqT.of upd_same), rfl, rfl, _, rfl, ?_⟩
      rw [show inV (V.str s0) [V.str "host", V.str "told"] = hideB k from (inV_str (ns := ["host", "told"])).trans eh.symm]
      have hlen : ts.length ≤ i := by
        have := congrArg List.length h5
        rw [List.length_map] at this
        rw [this]
        refine Nat.le_trans (List.length_filter_le _ _) ?_
        rw [List.length_map, List.length_take]; omega
      have hil := (List.getElem?_eq_some_iff.mp hki).1
      have hkl := hk.len
      have e5 : ∀ b, hideB k = b → ((kvs.take (i + 1)).map Prod.fst).filter (fun k => !hideB k) = ts.map Prod.snd ++ if b = false then [k] else [] := fun b eb => by
        rw [List.take_add_one, hki, List.map_append, List.filter_append, h5]
        cases b <;> simp [eb]
      cases hb : hideB k with
      | true =>
        refine iteF ⟨ts, s2 _ _ h1, h2.trans (.of s2), h3.trans (.of s2), s2 _ _ h4, ?_, fun t ht => s2 _ _ (h6 t ht)⟩
        rw [e5 _ hb]; simp
      | false =>
        refine iteT ⟨_, rfl, _, s2 _ _ h4, by rw [List.length_map]; exact small1000 (by omega), ts ++ [(qa, k)], ?_, ?_, ?_, ?_, ?_, ?_⟩
        · rw [upd_ne (fun z => hdn z.symm)]; exact s2 _ _ h1
        · exact fun b o e nb => by
            rw [upd_ne (fun (z : b = D) => by
              rw [z] at e
              have : upd H d (.frz od (.dT kvs)) D = some o := by rw [upd_ne hdn]; exact e
              rw [this] at hD; cases hD)]
            exact s2 _ _ (h2 _ _ e nb)
        · exact (h3.trans (.of s2)).trans (TK.updL (s2 _ _ h4))
        · rw [upd_same, List.map_append]; rfl
        · rw [e5 _ hb, List.map_append]; rfl
        · intro t ht
          have tkk := TK.updL (o := .lst (ts.map (fun t => V.ref t.1) ++ [V.ref qa])) (s2 _ _ h4)
          rcases List.mem_append.mp ht with z | z
          · exact tkk.t _ _ (s2 _ _ (h6 t z))
          · rw [List.mem_singleton.mp z]
            exact tkk.t _ _ (s2 _ _ hq)
    · rintro H1 ⟨ts, h1, h2, h3, h4, h5, h6⟩
      rw [List.take_length] at h5
      refine ⟨h1, D, ts, rfl, SqL.of (by rw [upd_ne hdn]; exact h4), fun t ht => ⟨?_, ?_⟩, fun ts' p hp hpn => ?_⟩
      · rw [upd_ne (fun z => by have := h6 t ht; rw [z, h1] at this; cases this)]; exact h6 t ht
      · have hm : t.2 ∈ ts.map Prod.snd := List.mem_map.mpr ⟨t, ht, rfl⟩
        rw [h5] at hm
        obtain ⟨kv, hkv, e⟩ := List.mem_map.mp (List.mem_filter.mp hm).1
        exact hk.top _ (by rw [← (hk.rel t.2).is]; exact mem_valV (v := kv.2) (by rw [← e]; exact hkv))
      have tk2 : TK H1 (upd H1 d (.dT kvs)) := TK.updF h1
      have off2 : Off [d] H (upd H1 d (.dT kvs)) := h2.trans (.upd (List.mem_singleton.mpr rfl))
      have hd2 : upd H1 d (.dT kvs) d = some (.dT kvs) := upd_same
      have tk3 : TK H (upd H1 d (.dT kvs)) := h3.trans tk2
      have h6' : ∀ t ∈ ts', upd H1 d (.dT kvs) t.1 = some (.tup (t.2.map kV)) := fun t ht => tk2.t _ _ (h6 t (hp.mem_iff.mp ht))
      have hm : ∀ k, k ∈ ts'.map Prod.snd ↔ (g k).isSome = true ∧ hideB k = false := fun k => by
        rw [(hp.map Prod.snd).mem_iff, h5, List.mem_filter, ← (hk.rel k).is]
        constructor
        · rintro ⟨a, b⟩
          obtain ⟨kv, hkv, rfl⟩ := List.mem_map.mp a
          exact ⟨mem_valV hkv, by simpa using b⟩
        · rintro ⟨a, b⟩
          obtain ⟨v, hv⟩ := valV_mem a
          exact ⟨List.mem_map.mpr ⟨_, hv, rfl⟩, by simp [b]⟩
      generalize upd H1 d (.dT kvs) = H2 at tk2 off2 hd2 tk3 h6' hpn ⊢
      have s3 := same_new (o := .lst (ts'.map fun t => V.ref t.1)) hpn
      refine ⟨p, rfl, ⟨_, SqL.of upd_same⟩, ?_⟩
      have hpd : p ≠ d := fun e => by rw [e, hd2] at hpn; cases hpn
      have hp3 : upd H2 p (.lst (ts'.map fun t => V.ref t.1)) p = some (.lst (ts'.map fun t => V.ref t.1)) := upd_same
      have d3 : DTat K (upd H2 p (.lst (ts'.map fun t => V.ref t.1))) d g n := ⟨kvs, s3 _ _ hd2, hk.tk (tk3.trans (.of s3))⟩
      have h63 : ∀ t ∈ ts', upd H2 p (.lst (ts'.map fun t => V.ref t.1)) t.1 = some (.tup (t.2.map kV)) := fun t ht => s3 _ _ (h6' t ht)
      have off3 := off2.trans (.of s3)
      have tk4 := tk3.trans (.of s3)
      generalize upd H2 p (.lst (ts'.map fun t => V.ref t.1)) = H3 at hp3 d3 h63 off3 tk4 ⊢
      refine for_list (K := K) (a := p) (xs := ts'.map fun t => V.ref t.1) (fun i σ' H' => ∃ tv, σ' = [some (.ref d), some (.int one), tv, none] ∧ Off [d] H3 H' ∧ TK H3 H' ∧ DTat K H' d (fun k => if k ∈ (ts'.take i).map Prod.snd ∧ nsK k = one then some .none else g k) n)
        ⟨none, rfl, .refl _, .refl _, ?_⟩ (fun i σ' H' _ ⟨_, _, o, _, _⟩ => SqL.of (o _ _ hp3 (by simpa using hpd))) ?_ ?_
      · have e : (fun k => if k ∈ (ts'.take 0).map Prod.snd ∧ nsK k = one then some PyData.none else g k) = g := funext fun k => if_neg (by simp)
        rw [e]; exact d3
      · rintro i x σ' H' hx ⟨tv, rfl, o, tk', dd⟩
        obtain ⟨t, hti, rfl⟩ := map_get hx
        have htm := List.mem_of_getElem? hti
        have tkt : TopK t.2 := by
          have := (hm t.2).mp (List.mem_map.mpr ⟨t, htm, rfl⟩)
          exact hk.top _ this.1
        have hq := tk'.t _ _ (h63 t htm)
        refine ⟨_, rfl, t.1, _, _, _, rfl, rfl, SqT.of hq, atI_nat (j := 1) (topK_1 tkt), _, rfl, rfl, _, rfl, ?_⟩
        have et : ∀ k, k ∈ (ts'.take (i + 1)).map Prod.snd ↔ k ∈ (ts'.take i).map Prod.snd ∨ k = t.2 := fun k => by
          rw [List.take_add_one, hti, List.map_append, List.mem_append]; simp
        by_cases e1 : nsK t.2 = one
        · rw [decide_eq_true (show V.int (nsK t.2) = V.int one by rw [e1])]
          refine iteT ⟨_, rfl, _, rfl, ?_⟩
          refine dd.put' (e := .none) hq hn .non ⟨by simp [PyData.canLay0], by simp [PyData.depth], by simp [noL]⟩ ?_ fun H4 o4 t4 d4 => ⟨_, rfl, o.trans o4, tk'.trans t4, ?_⟩
          · split
            · rfl
            · exact ((hm t.2).mp (List.mem_map.mpr ⟨t, htm, rfl⟩)).1
          · have e : setF (fun k => if k ∈ (ts'.take i).map Prod.snd ∧ nsK k = one then some PyData.none else g k) t.2 .none = fun k => if k ∈ (ts'.take (i + 1)).map Prod.snd ∧ nsK k = one then some PyData.none else g k := by
              funext k
              unfold setF
              by_cases z : k = t.2
              · rw [if_pos z, if_pos ⟨(et k).mpr (.inr z), by rw [z]; exact e1⟩]
              · rw [if_neg z]
                dsimp only
                by_cases y : k ∈ (ts'.take i).map Prod.snd ∧ nsK k = one
                · rw [if_pos y, if_pos ⟨(et k).mpr (.inl y.1), y.2⟩]
                · rw [if_neg y, if_neg fun u => y ⟨((et k).mp u.1).resolve_right z, u.2⟩]
            rw [← e]; exact d4
        · rw [decide_eq_false (show ¬ V.int (nsK t.2) = V.int one from fun z => e1 (V.int.inj z))]
          refine iteF ⟨_, rfl, o, tk', ?_⟩
          have e : (fun k => if k ∈ (ts'.take (i + 1)).map Prod.snd ∧ nsK k = one then some PyData.none else g k) = fun k => if k ∈ (ts'.take i).map Prod.snd ∧ nsK k = one then some PyData.none else g k := by
            funext k
            by_cases y : k ∈ (ts'.take i).map Prod.snd ∧ nsK k = one
            · rw [if_pos y, if_pos ⟨(et k).mpr (.inl y.1), y.2⟩]
            · rw [if_neg y, if_neg fun u => ((et k).mp u.1).elim (fun w => y ⟨w, u.2⟩) fun w => e1 (by rw [← w]; exact u.2)]
          rw [e]; exact dd
      · rintro σ' H' ⟨tv, rfl, o, tk', dd⟩
        rw [List.length_map, List.take_length] at dd
        refine q H' (off3.trans o) (tk4.trans tk') ?_
        have e : goneF g one = fun k => if k ∈ ts'.map Prod.snd ∧ nsK k = one then some PyData.none else g k := by
          funext k
          unfold goneF
          by_cases y : (g k).isSome = true ∧ hideB k = false ∧ nsK k = one
          · rw [if_pos y, if_pos ⟨(hm k).mpr ⟨y.1, y.2.1⟩, y.2.2⟩]
          · rw [if_neg y, if_neg fun u => y ⟨((hm k).mp u.1).1, ((hm k).mp u.1).2, u.2⟩]
        rw [e]; exact dd
end
end Sg

set_option Elab.async false
set_option linter.all false
set_option maxRecDepth 100000
set_option maxHeartbeats 8000000
namespace Sg
open PySem PySem.Spec PyProof.Rows L2
theorem orT1 {i : Nat} {x y : Str} {t u : TS} {D : Ends} {σ : L2.St} {H : Hp} (hσ : σ[i]? = some (some (.str x))) (n : t D σ H) : tIfS (tOr (tTest (tOp rEq (tVar i) (tC (.str x)))) (tTest (tOp rEq (tVar i) (tC (.str y))))) t u D σ H := by
  refine ⟨_, hσ, rfl, _, rfl, ?_⟩
  rw [str_eqT]
  exact iteT (iteT n)
theorem orT2 {i : Nat} {x y : Str} {t u : TS} {D : Ends} {σ : L2.St} {H : Hp} (hσ : σ[i]? = some (some (.str y))) (h : ¬ y = x) (n : t D σ H) : tIfS (tOr (tTest (tOp rEq (tVar i) (tC (.str x)))) (tTest (tOp rEq (tVar i) (tC (.str y))))) t u D σ H := by
  refine ⟨_, hσ, rfl, _, rfl, ?_⟩
  rw [str_eqF h]
  refine iteF ⟨_, hσ, rfl, _, rfl, ?_⟩
  rw [str_eqT]
  exact iteT n
theorem orF {i : Nat} {k x y : Str} {t u : TS} {D : Ends} {σ : L2.St} {H : Hp} (hσ : σ[i]? = some (some (.str k))) (h : ¬ k = x) (h' : ¬ k = y) (n : u D σ H) : tIfS (tOr (tTest (tOp rEq (tVar i) (tC (.str x)))) (tTest (tOp rEq (tVar i) (tC (.str y))))) t u D σ H := by
  refine ⟨_, hσ, rfl, _, rfl, ?_⟩
  rw [str_eqF h]
  refine iteF ⟨_, hσ, rfl, _, rfl, ?_⟩
  rw [str_eqF h']
  exact iteF n
theorem DTat.mono {K : PySem.W.Frag} {H : Hp} {d : Addr} {f : KF} {n m : Nat} (h : DTat K H d f n) (l : n ≤ m) : DTat K H d f m := by
  obtain ⟨kvs, a, b⟩ := h
  exact ⟨kvs, a, b.mono l⟩
theorem DTat.same {K : PySem.W.Frag} {H H' : Hp} {d : Addr} {f : KF} {n : Nat} (h : DTat K H d f n) (s : Same H H') : DTat K H' d f n := h.off (xs := []) (.of s) (.of s) (by simp)
/-- state[key] = value -/
theorem stPut {K : PySem.W.Frag} {tv : TE} {tk : TA} {D : Ends} {σ : L2.St} {H : Hp} {i : Nat} {d : Addr} {f : KF} {n : Nat} {k : List Key} {e : PyData} (hσ : σ[i]? = some (some (.ref d))) (hd : DTat K H d f n) (hn : n ≤ 1000) (kl : k.length ≤ 3) (tpk : TopK k) (sm : Sm e)
    (hv : ∀ R : VK, (∀ H' v, Same H H' → Dp K H' v e → R v H') → tv σ H R) (hk : ∀ H' (R : List V → Hp → Prop), Same H H' → R (k.map kV) H' → tk σ H' R)
    (q : ∀ H', Off [d] H H' → TK H H' → DTat K H' d (setF f k e) (n + 1) → D.nx σ H') : sDPut (tVar i) (tTup tk) tv D σ H := by
  refine hv _ fun H1 v s1 hv1 => ⟨_, hσ, hk _ _ s1 ⟨by rw [List.length_map]; exact Nat.le_of_lt (small1000 (by omega)), fun t ht => ?_⟩⟩
  have s2 := same_new (o := .tup (k.map kV)) ht
  exact ((hd.same (s1.trans s2))).put upd_same hn (dp_same s2 _ _ hv1) sm tpk fun H' o tk d' => q H' ((Off.of (s1.trans s2)).trans o) ((TK.of (s1.trans s2)).trans tk) d'
theorem stPutS {K : PySem.W.Frag} {tv : TE} {tk : TA} {r : TS} {D : Ends} {σ : L2.St} {H : Hp} {i : Nat} {d : Addr} {f : KF} {n : Nat} {k : List Key} {e : PyData} (hσ : σ[i]? = some (some (.ref d))) (hd : DTat K H d f n) (hn : n ≤ 1000) (kl : k.length ≤ 3) (tpk : TopK k) (sm : Sm e)
    (hv : ∀ R : VK, (∀ H' v, Same H H' → Dp K H' v e → R v H') → tv σ H R) (hk : ∀ H' (R : List V → Hp → Prop), Same H H' → R (k.map kV) H' → tk σ H' R)
    (q : ∀ H', Off [d] H H' → TK H H' → DTat K H' d (setF f k e) (n + 1) → r D σ H') : tSeq (sDPut (tVar i) (tTup tk) tv) r D σ H :=
  stPut (D := { D with nx := fun σ H => r D σ H }) hσ hd hn kl tpk sm hv hk q
theorem lay_ok : (PyData.str "ok").canLay0 = true := by decide +kernel
theorem lay_way {w : Str} (h : w = "write" ∨ w = "alone") : (PyData.str w).canLay0 = true := by
  rcases h with rfl | rfl <;> decide +kernel
theorem sm_tup2 {a b : PyData} (ha : a.canLay0 = true ∧ a.depth ≤ 1 ∧ noL a = true) (hb : b.canLay0 = true ∧ b.depth ≤ 1 ∧ noL b = true) : Sm (.tuple [a, b]) := by
  refine ⟨?_, ?_, ?_⟩
  · simp [PyData.canLay0, PyData.canLayAll0, ha.1, hb.1]
  · simp only [PyData.depth, PyData.depthAll]; omega
  · simp [noL, noLAll, ha.2.2, hb.2.2]
theorem sm_hold {h : Int} {w : Str} (hw : w = "write" ∨ w = "alone") : Sm (.tuple [.int h, .str w]) := sm_tup2 ⟨by simp [PyData.canLay0], by simp [PyData.depth], by simp [noL]⟩ ⟨lay_way hw, by simp [PyData.depth], by simp [noL]⟩
theorem answ_small (k : Str) (o : Int) : (answD k o).canLay0 = true ∧ (answD k o).depth ≤ 1 ∧ noL (answD k o) = true := by
  unfold answD
  split
  · exact ⟨by simp [PyData.canLay0], by simp [PyData.depth], by simp [noL]⟩
  · have := lay_ok
    split <;> exact ⟨by simp [PyData.canLay0, PyData.canLayAll0] at this ⊢; exact this, by simp [PyData.depth, PyData.depthAll], by simp [noL, noLAll]⟩
theorem sm_effH (r : Rc) : Sm (effH r).2 := by
  obtain ⟨a, b, c⟩ := answ_small (kindS r.b) r.o
  refine ⟨?_, ?_, ?_⟩
  · simp [effH, PyData.canLay0, PyData.canLayAll0, a]
  · simp only [effH, PyData.depth, PyData.depthAll]; omega
  · simp [effH, noL, noLAll, c]
theorem sm_eff {r : Rc} (h : BdOk r.b) : ∀ e ∈ effR r, Sm e.2 ∧ TopK e.1 ∧ e.1.length ≤ 3 := by
  obtain ⟨o, h0, s, c, b⟩ := r
  intro e he
  rcases List.mem_cons.mp he with rfl | he
  · exact ⟨sm_effH _, trivial, by show 2 ≤ 3; decide⟩
  · cases b with
    | mark d => rw [List.mem_singleton.mp he]; exact ⟨h, trivial, by show 2 ≤ 3; decide⟩
    | make n z => rw [List.mem_singleton.mp he]; exact ⟨sm_int, trivial, by show 2 ≤ 3; decide⟩
    | remove n => rw [List.mem_singleton.mp he]; exact ⟨sm_int, trivial, by show 2 ≤ 3; decide⟩
    | write n p v => rw [List.mem_singleton.mp he]; exact ⟨sm_int, trivial, by show 3 ≤ 3; decide⟩
    | trim n p => rw [List.mem_singleton.mp he]; exact ⟨sm_non, trivial, by show 3 ≤ 3; decide⟩
    | snap n => rw [List.mem_singleton.mp he]; exact ⟨sm_int, trivial, by show 3 ≤ 3; decide⟩
    | drop n s => rw [List.mem_singleton.mp he]; exact ⟨sm_non, trivial, by show 3 ≤ 3; decide⟩
    | register n => rw [List.mem_singleton.mp he]; exact ⟨sm_int, trivial, by show 3 ≤ 3; decide⟩
    | reserve n w => rw [List.mem_singleton.mp he]; exact ⟨sm_hold h, trivial, by show 2 ≤ 3; decide⟩
    | release n => rw [List.mem_singleton.mp he]; exact ⟨sm_non, trivial, by show 2 ≤ 3; decide⟩
    | leave n held =>
      cases held with
      | false => rw [List.mem_singleton.mp he]; exact ⟨sm_non, trivial, by show 3 ≤ 3; decide⟩
      | true =>
        rcases List.mem_cons.mp he with rfl | he
        · exact ⟨sm_non, trivial, by show 3 ≤ 3; decide⟩
        · rw [List.mem_singleton.mp he]; exact ⟨sm_non, trivial, by show 2 ≤ 3; decide⟩
    | preempt n v w =>
      cases w with
      | none => rw [List.mem_singleton.mp he]; exact ⟨sm_non, trivial, by show 3 ≤ 3; decide⟩
      | some w =>
        rcases List.mem_cons.mp he with rfl | he
        · exact ⟨sm_non, trivial, by show 3 ≤ 3; decide⟩
        · rw [List.mem_singleton.mp he]; exact ⟨sm_hold h, trivial, by show 2 ≤ 3; decide⟩
theorem fld_noL {b : Bd} (h : BdOk b) : noLAll (fldD b) = true := by
  cases b with
  | mark d => simp [fldD, noLAll]; exact h.2.2
  | preempt n v w => cases w <;> simp [fldD, noLAll, noL, wayD]
  | _ => simp [fldD, noLAll, noL]
/-- what the law's own apply does -/
def setE (f : KF) (e : Ef) : KF := setF f e.1 e.2
def applyF (f : KF) (r : Rc) : KF := match r.b with
  | .remove n => goneF (setE f (effH r)) n
  | b => (effB r.o r.h b).foldl setE (setE f (effH r))
def spLApply (K : PySem.W.Frag) : Sp := fun vs H Q _ => ∃ (d t : Addr) (r : Rc) (f : KF) (n : Nat), vs = [.ref d, .ref t] ∧ DTat K H d f n ∧ n ≤ 900 ∧ RecAt K H t r ∧ BdOk r.b ∧
  ∀ H', Off [d] H H' → TK H H' → DTat K H' d (applyF f r) (n + 3) → Q .non H'
section
variable {P : Program} {wrl : World} {K : PySem.W.Frag} {mg : Str → Option Value} {base : Heap} {f fA fR : Addr} {fd fdA fdR : FuncData}
abbrev LAP : List Str := ["state","record","kind","host"]
theorem scLApply : FnScope LAP ["state","record"] (defScope sLApply) := ⟨rfl, rfl, rfl, by decide +kernel, rfl, by decide +kernel, by decide +kernel⟩
theorem ok_lapply (F : Fun K "_law_apply" "_law_apply" sLApply f fd) (mi : mg "int" = none) (GA : Def P wrl K mg base CX0 "_law_answer" 1 ["record"] (spLAnswer K) fA fdA) (GR : Def P wrl K mg base CX0 "_law_remove" 1 ["state", "one"] (spLRemove K) fR fdR) : FnOk P wrl K mg base CX0 2 f fd ["state","record"] (spLApply K) := by
  refine F.ok scLApply (fun vs H Q E h => ?_) (fun cdv A outer s H vs Q E hr h => ?_)
  · obtain ⟨d, t, r, g, n, rfl, _⟩ := h
    rfl
  · obtain ⟨d, t, r, g, n, rfl, hd0, hn, hrec, hok, q⟩ := h
    refine ⟨_, (pss_cons (ps_par (i := 2) (j := 3) (by rfl) scLApply.nd rfl rfl (by decide) rfl rfl (pa_cons (pe_ix ix_tup (pv 1) pe_int (fun _ _ => rfl)) (pa_cons (pe_ix ix_tup (pv 1) pe_int (fun _ _ => rfl)) pa_nil)) (by rfl))
      (pss_cons (ps_dput (hu_of hr) (pv 0) (pe_tup (pa_cons pe_str (pa_cons (pv 3) pa_nil))) (pe_tup (pa_cons (pe_ix ix_tup (pv 1) pe_int (fun _ _ => rfl)) (pa_cons (pe_ix ix_tup (pv 1) pe_int (fun _ _ => rfl)) (pa_cons (pe_call GA.ok hr (by rfl) GA.mg GA.kp GA.bd .nil pass0 (pa_cons (pv 1) pa_nil)) pa_nil)))) rfl)
      (pss_one (ps_if (pt_cmpR op_eq (pv 2) pe_str (nomark _))
      (pss_one (ps_dput (hu_of hr) (pv 0) (pe_tup (pa_cons pe_str (pa_cons (pv 3) pa_nil))) (pe_ix ix_tup (pv 1) pe_int (fun _ _ => rfl)) rfl)) (pss_one (ps_if (pt_cmpR op_eq (pv 2) pe_str (nomark _))
      (pss_one (ps_dput (hu_of hr) (pv 0) (pe_tup (pa_cons pe_str (pa_cons (pe_ix ix_tup (pv 1) pe_int (fun _ _ => rfl)) pa_nil))) (pe_ix ix_tup (pv 1) pe_int (fun _ _ => rfl)) rfl)) (pss_one (ps_if (pt_cmpR op_eq (pv 2) pe_str (nomark _))
      (pss_cons (ps_dput (hu_of hr) (pv 0) (pe_tup (pa_cons pe_str (pa_cons (pe_ix ix_tup (pv 1) pe_int (fun _ _ => rfl)) (pa_cons (pv 3) pa_nil)))) pe_non rfl)
      (pss_one (ps_if (pt_val (pe_ix ix_tup (pv 1) pe_int (fun _ _ => rfl)))
      (pss_one (ps_dput (hu_of hr) (pv 0) (pe_tup (pa_cons pe_str (pa_cons (pe_ix ix_tup (pv 1) pe_int (fun _ _ => rfl)) pa_nil))) pe_non rfl)) pss_nil))) (pss_one (ps_if (pt_cmpR op_eq (pv 2) pe_str (nomark _))
      (pss_one (ps_expr (pe_call GR.ok hr (by rfl) GR.mg GR.kp GR.bd .nil pass0 (pa_cons (pv 0) (pa_cons (pe_ix ix_tup (pv 1) pe_int (fun _ _ => rfl)) pa_nil))))) (pss_one (ps_if (PW.pt (pw_or (pt_cmpR op_eq (pv 2) pe_str (nomark _)) (pw_or1 (pt_cmpR op_eq (pv 2) pe_str (nomark _)))))
      (pss_one (ps_dput (hu_of hr) (pv 0) (pe_tup (pa_cons pe_str (pa_cons (pe_ix ix_tup (pv 1) pe_int (fun _ _ => rfl)) (pa_cons (pe_ix ix_tup (pv 1) pe_int (fun _ _ => rfl)) pa_nil)))) (pe_ix ix_list (pe_lst (pa_cons pe_non (pa_cons (pe_ix ix_tup (pv 1) (pe_un un_neg pe_int) (fun _ _ => rfl)) pa_nil))) (pe_callTy call_int1 (by rfl) mi (by decide +kernel) (pa_cons (pe_cmpR op_eq (pv 2) pe_str (nomark _)) pa_nil)) (fun _ _ => rfl)) rfl)) (pss_one (ps_if (pt_cmpR op_eq (pv 2) pe_str (nomark _))
      (pss_one (ps_dput (hu_of hr) (pv 0) (pe_tup (pa_cons pe_str (pa_cons (pe_ix ix_tup (pv 1) pe_int (fun _ _ => rfl)) (pa_cons (pe_ix ix_tup (pv 1) pe_int (fun _ _ => rfl)) pa_nil)))) (pe_ix ix_tup (pv 1) pe_int (fun _ _ => rfl)) rfl)) (pss_one (ps_if (pt_cmpR op_eq (pv 2) pe_str (nomark _))
      (pss_one (ps_dput (hu_of hr) (pv 0) (pe_tup (pa_cons pe_str (pa_cons (pe_ix ix_tup (pv 1) pe_int (fun _ _ => rfl)) (pa_cons (pe_ix ix_tup (pv 1) pe_int (fun _ _ => rfl)) pa_nil)))) pe_non rfl)) (pss_one (ps_if (pt_cmpR op_eq (pv 2) pe_str (nomark _))
      (pss_one (ps_dput (hu_of hr) (pv 0) (pe_tup (pa_cons pe_str (pa_cons (pe_ix ix_tup (pv 1) pe_int (fun _ _ => rfl)) (pa_cons (pv 3) pa_nil)))) (pe_ix ix_tup (pv 1) pe_int (fun _ _ => rfl)) rfl)) (pss_one (ps_if (pt_cmpR op_eq (pv 2) pe_str (nomark _))
      (pss_cons (ps_dput (hu_of hr) (pv 0) (pe_tup (pa_cons pe_str (pa_cons (pe_ix ix_tup (pv 1) pe_int (fun _ _ => rfl)) (pa_cons (pe_ix ix_tup (pv 1) pe_int (fun _ _ => rfl)) pa_nil)))) pe_non rfl)
      (pss_one (ps_if (pt_cmpR op_notN (pe_ix ix_tup (pv 1) pe_int (fun _ _ => rfl)) pe_non (nomark _))
      (pss_one (ps_dput (hu_of hr) (pv 0) (pe_tup (pa_cons pe_str (pa_cons (pe_ix ix_tup (pv 1) pe_int (fun _ _ => rfl)) pa_nil))) (pe_tup (pa_cons (pv 3) (pa_cons (pe_ix ix_tup (pv 1) pe_int (fun _ _ => rfl)) pa_nil))) rfl)) pss_nil))) (pss_one (ps_dput (hu_of hr) (pv 0) (pe_tup (pa_cons pe_str (pa_cons (pe_ix ix_tup (pv 1) pe_int (fun _ _ => rfl)) pa_nil))) (pe_ix ix_list (pe_lst (pa_cons pe_non (pa_cons (pe_tup (pa_cons (pv 3) (pa_cons (pe_ix ix_tup (pv 1) (pe_un un_neg pe_int) (fun _ _ => rfl)) pa_nil))) pa_nil))) (pe_callTy call_int1 (by rfl) mi (by decide +kernel) (pa_cons (pe_cmpR op_eq (pv 2) pe_str (nomark _)) pa_nil)) (fun _ _ => rfl)) rfl)))))))))))))))))))))), ?_⟩
    have hrec0 := hrec
    obtain ⟨ys, hs, hdp⟩ := hrec
    refine ⟨_, rfl, t, _, _, _, rfl, rfl, hs, atI_nat (j := 1) rfl, _, rfl, t, _, _, _, rfl, rfl, hs, atI_nat (j := 2) rfl, _, _, rfl, ?_⟩
    have hd1 := hd0
    have hr1 := hrec0
    have hs1 := hs
    have o1 : Off [d] H H := .refl _
    have t1 : TK H H := .refl _
    dsimp only
    refine stPutS (K := K) (d := d) (f := g) (n := n) (k := (effH r).1) (e := (effH r).2) rfl hd1 (by omega) (by show 2 ≤ 3; decide) trivial (sm_effH r) (fun R z => ?_) (fun H' R s' z => ⟨_, rfl, z⟩) fun H2 o2 t2 hd2 => ?_
    · refine ⟨_, rfl, t, _, _, _, rfl, rfl, hs1, atI_nat (j := 3) rfl, _, rfl, t, _, _, _, rfl, rfl, hs1, atI_nat (j := 4) rfl, _, rfl, t, r, rfl, hr1, fun v H3 s3 hv => ⟨by show 3 ≤ sizeLine; decide, fun u hu => ?_⟩⟩
      exact z _ _ (s3.trans (same_new hu)) (.tup (SqT.of upd_same) (.cons (.int _) (.cons (.int _) (.cons (dp_same (same_new hu) _ _ hv) .nil))))
    have o12 := o1.trans o2
    have t12 := t1.trans t2
    have hs2 := sqT_tk hs1 t2
    have hdp2 : DpAll K H2 ys (fldD r.b) := dpAll_tk t12 _ _ (fld_noL hok) hdp
    have q2 : ∀ H', Off [d] H2 H' → TK H2 H' → DTat K H' d (applyF g r) (n + 3) → Q .non H' := fun H' o' t' d' => q H' (o12.trans o') (t12.trans t') d'
    clear q hs hs1 hdp hrec0 hr1 hd0 hd1 o2 t2 o12 t12 o1 t1
    obtain ⟨o, h, s, c, b⟩ := r
    change DTat K H2 d (setE g (effH ⟨o, h, s, c, b⟩)) (n + 1) at hd2
    generalize hf1 : setE g (effH ⟨o, h, s, c, b⟩) = f1 at hd2
    cases b with
    | mark m =>
      obtain ⟨x1, r1, rfl, e1, b1⟩ := dpAll_cons hdp2
      obtain rfl := dpAll_nil b1
      refine elT rfl ?_
      refine stPut (K := K) (d := d) (f := f1) (n := n + 1) (k := [.inr "told", .inl h]) (e := m) rfl hd2 (by omega) (by show 2 ≤ 3; decide) trivial hok (fun R z => ⟨_, rfl, t, _, _, _, rfl, rfl, hs2, atI_nat (j := 5) rfl, z _ _ (Same.refl _) e1⟩) (fun H' R s' z => ⟨_, rfl, z⟩) fun H3 o3 t3 d3 => ?_
      exact q2 H3 o3 t3 ((by rw [← hf1] at d3; exact d3 : DTat K H3 d (applyF g _) _).mono (by omega))
    | make nn sz =>
      obtain ⟨x1, r1, rfl, e1, b1⟩ := dpAll_cons hdp2
      obtain rfl := dp_int e1
      obtain ⟨x2, r2, rfl, e2, b2⟩ := dpAll_cons b1
      obtain rfl := dp_int e2
      obtain rfl := dpAll_nil b2
      refine elF rfl (by dsimp only [kindS]; decide) ?_
      refine elT rfl ?_
      refine stPut (K := K) (d := d) (f := f1) (n := n + 1) (k := [.inr "space", .inl nn]) (e := .int sz) rfl hd2 (by omega) (by show 2 ≤ 3; decide) trivial sm_int (fun R z => ⟨_, rfl, t, _, _, _, rfl, rfl, hs2, atI_nat (j := 6) rfl, z _ _ (Same.refl _) (.int _)⟩) (fun H' R s' z => ⟨_, rfl, t, _, _, _, rfl, rfl, SqT_same s' hs2, atI_nat (j := 5) rfl, z⟩) fun H3 o3 t3 d3 => ?_
      exact q2 H3 o3 t3 ((by rw [← hf1] at d3; exact d3 : DTat K H3 d (applyF g _) _).mono (by omega))
    | remove nn =>
      obtain ⟨x1, r1, rfl, e1, b1⟩ := dpAll_cons hdp2
      obtain rfl := dp_int e1
      obtain rfl := dpAll_nil b1
      refine elF rfl (by dsimp only [kindS]; decide) ?_
      refine elF rfl (by dsimp only [kindS]; decide) ?_
      refine elF rfl (by dsimp only [kindS]; decide) ?_
      refine elT rfl ?_
      refine ⟨_, rfl, _, rfl, t, _, _, _, rfl, rfl, hs2, atI_nat (j := 5) rfl, d, nn, f1, n + 1, rfl, hd2, by omega, fun H3 o3 t3 d3 => ?_⟩
      exact q2 H3 o3 t3 ((by rw [← hf1] at d3; exact d3 : DTat K H3 d (applyF g _) _).mono (by omega))
    | write nn p v =>
      obtain ⟨x1, r1, rfl, e1, b1⟩ := dpAll_cons hdp2
      obtain rfl := dp_int e1
      obtain ⟨x2, r2, rfl, e2, b2⟩ := dpAll_cons b1
      obtain rfl := dp_int e2
      obtain ⟨x3, r3, rfl, e3, b3⟩ := dpAll_cons b2
      obtain rfl := dp_int e3
      obtain rfl := dpAll_nil b3
      refine elF rfl (by dsimp only [kindS]; decide) ?_
      refine elF rfl (by dsimp only [kindS]; decide) ?_
      refine elF rfl (by dsimp only [kindS]; decide) ?_
      refine elF rfl (by dsimp only [kindS]; decide) ?_
      refine orT1 rfl ?_
      refine stPut (K := K) (d := d) (f := f1) (n := n + 1) (k := [.inr "place", .inl nn, .inl p]) (e := .int v) rfl hd2 (by omega) (by show 3 ≤ 3; decide) trivial sm_int (fun R z => ⟨_, rfl, _, rfl, t, _, _, _, rfl, rfl, hs2, (by exact atI_last [_, _, _, _, _, _, _] _), by show 2 ≤ sizeLine; decide, fun l hl => ⟨_, rfl, rfl, .inr ⟨_, rfl, l, _, _, _, rfl, rfl, SqL.of upd_same, atI_nat (j := 1) rfl, z _ _ (same_new hl) (.int _)⟩⟩⟩) (fun H' R s' z => ⟨_, rfl, t, _, _, _, rfl, rfl, SqT_same s' hs2, atI_nat (j := 5) rfl, _, rfl, t, _, _, _, rfl, rfl, SqT_same s' hs2, atI_nat (j := 6) rfl, z⟩) fun H3 o3 t3 d3 => ?_
      exact q2 H3 o3 t3 ((by rw [← hf1] at d3; exact d3 : DTat K H3 d (applyF g _) _).mono (by omega))
    | trim nn p =>
      obtain ⟨x1, r1, rfl, e1, b1⟩ := dpAll_cons hdp2
      obtain rfl := dp_int e1
      obtain ⟨x2, r2, rfl, e2, b2⟩ := dpAll_cons b1
      obtain rfl := dp_int e2
      obtain rfl := dpAll_nil b2
      refine elF rfl (by dsimp only [kindS]; decide) ?_
      refine elF rfl (by dsimp only [kindS]; decide) ?_
      refine elF rfl (by dsimp only [kindS]; decide) ?_
      refine elF rfl (by dsimp only [kindS]; decide) ?_
      refine orT2 rfl (by decide) ?_
      refine stPut (K := K) (d := d) (f := f1) (n := n + 1) (k := [.inr "place", .inl nn, .inl p]) (e := .none) rfl hd2 (by omega) (by show 3 ≤ 3; decide) trivial sm_non (fun R z => ⟨_, rfl, _, rfl, t, _, _, _, rfl, rfl, hs2, (by exact atI_last [_, _, _, _, _, _] _), by show 2 ≤ sizeLine; decide, fun l hl => ⟨_, rfl, rfl, .inr ⟨_, rfl, l, _, _, _, rfl, rfl, SqL.of upd_same, atI_nat (j := 0) rfl, z _ _ (same_new hl) .non⟩⟩⟩) (fun H' R s' z => ⟨_, rfl, t, _, _, _, rfl, rfl, SqT_same s' hs2, atI_nat (j := 5) rfl, _, rfl, t, _, _, _, rfl, rfl, SqT_same s' hs2, atI_nat (j := 6) rfl, z⟩) fun H3 o3 t3 d3 => ?_
      exact q2 H3 o3 t3 ((by rw [← hf1] at d3; exact d3 : DTat K H3 d (applyF g _) _).mono (by omega))
    | snap nn =>
      obtain ⟨x1, r1, rfl, e1, b1⟩ := dpAll_cons hdp2
      obtain rfl := dp_int e1
      obtain rfl := dpAll_nil b1
      refine elF rfl (by dsimp only [kindS]; decide) ?_
      refine elF rfl (by dsimp only [kindS]; decide) ?_
      refine elF rfl (by dsimp only [kindS]; decide) ?_
      refine elF rfl (by dsimp only [kindS]; decide) ?_
      refine orF rfl (by dsimp only [kindS]; decide) (by dsimp only [kindS]; decide) ?_
      refine elT rfl ?_
      refine stPut (K := K) (d := d) (f := f1) (n := n + 1) (k := [.inr "snap", .inl nn, .inl o]) (e := .int o) rfl hd2 (by omega) (by show 3 ≤ 3; decide) trivial sm_int (fun R z => ⟨_, rfl, t, _, _, _, rfl, rfl, hs2, atI_nat (j := 0) rfl, z _ _ (Same.refl _) (.int _)⟩) (fun H' R s' z => ⟨_, rfl, t, _, _, _, rfl, rfl, SqT_same s' hs2, atI_nat (j := 5) rfl, _, rfl, t, _, _, _, rfl, rfl, SqT_same s' hs2, atI_nat (j := 0) rfl, z⟩) fun H3 o3 t3 d3 => ?_
      exact q2 H3 o3 t3 ((by rw [← hf1] at d3; exact d3 : DTat K H3 d (applyF g _) _).mono (by omega))
    | drop nn sn =>
      obtain ⟨x1, r1, rfl, e1, b1⟩ := dpAll_cons hdp2
      obtain rfl := dp_int e1
      obtain ⟨x2, r2, rfl, e2, b2⟩ := dpAll_cons b1
      obtain rfl := dp_int e2
      obtain rfl := dpAll_nil b2
      refine elF rfl (by dsimp only [kindS]; decide) ?_
      refine elF rfl (by dsimp only [kindS]; decide) ?_
      refine elF rfl (by dsimp only [kindS]; decide) ?_
      refine elF rfl (by dsimp only [kindS]; decide) ?_
      refine orF rfl (by dsimp only [kindS]; decide) (by dsimp only [kindS]; decide) ?_
      refine elF rfl (by dsimp only [kindS]; decide) ?_
      refine elT rfl ?_
      refine stPut (K := K) (d := d) (f := f1) (n := n + 1) (k := [.inr "snap", .inl nn, .inl sn]) (e := .none) rfl hd2 (by omega) (by show 3 ≤ 3; decide) trivial sm_non (fun R z => z _ _ (Same.refl _) .non) (fun H' R s' z => ⟨_, rfl, t, _, _, _, rfl, rfl, SqT_same s' hs2, atI_nat (j := 5) rfl, _, rfl, t, _, _, _, rfl, rfl, SqT_same s' hs2, atI_nat (j := 6) rfl, z⟩) fun H3 o3 t3 d3 => ?_
      exact q2 H3 o3 t3 ((by rw [← hf1] at d3; exact d3 : DTat K H3 d (applyF g _) _).mono (by omega))
    | register nn =>
      obtain ⟨x1, r1, rfl, e1, b1⟩ := dpAll_cons hdp2
      obtain rfl := dp_int e1
      obtain rfl := dpAll_nil b1
      refine elF rfl (by dsimp only [kindS]; decide) ?_
      refine elF rfl (by dsimp only [kindS]; decide) ?_
      refine elF rfl (by dsimp only [kindS]; decide) ?_
      refine elF rfl (by dsimp only [kindS]; decide) ?_
      refine orF rfl (by dsimp only [kindS]; decide) (by dsimp only [kindS]; decide) ?_
      refine elF rfl (by dsimp only [kindS]; decide) ?_
      refine elF rfl (by dsimp only [kindS]; decide) ?_
      refine elT rfl ?_
      refine stPut (K := K) (d := d) (f := f1) (n := n + 1) (k := [.inr "key", .inl nn, .inl h]) (e := .int o) rfl hd2 (by omega) (by show 3 ≤ 3; decide) trivial sm_int (fun R z => ⟨_, rfl, t, _, _, _, rfl, rfl, hs2, atI_nat (j := 0) rfl, z _ _ (Same.refl _) (.int _)⟩) (fun H' R s' z => ⟨_, rfl, t, _, _, _, rfl, rfl, SqT_same s' hs2, atI_nat (j := 5) rfl, _, rfl, z⟩) fun H3 o3 t3 d3 => ?_
      exact q2 H3 o3 t3 ((by rw [← hf1] at d3; exact d3 : DTat K H3 d (applyF g _) _).mono (by omega))
    | leave nn held =>
      obtain ⟨x1, r1, rfl, e1, b1⟩ := dpAll_cons hdp2
      obtain rfl := dp_int e1
      obtain ⟨x2, r2, rfl, e2, b2⟩ := dpAll_cons b1
      obtain rfl := dp_bool e2
      obtain rfl := dpAll_nil b2
      refine elF rfl (by dsimp only [kindS]; decide) ?_
      refine elF rfl (by dsimp only [kindS]; decide) ?_
      refine elT rfl ?_
      refine stPutS (K := K) (d := d) (f := f1) (n := n + 1) (k := [.inr "key", .inl nn, .inl h]) (e := .none) rfl hd2 (by omega) (by show 3 ≤ 3; decide) trivial sm_non (fun R z => z _ _ (Same.refl _) .non) (fun H' R s' z => ⟨_, rfl, t, _, _, _, rfl, rfl, SqT_same s' hs2, atI_nat (j := 5) rfl, _, rfl, z⟩) fun H3 o3 t3 d3 => ?_
      have hs3 := sqT_tk hs2 t3
      refine ⟨_, rfl, t, _, _, _, rfl, rfl, hs3, atI_nat (j := 6) rfl, _, rfl, ?_⟩
      cases held with
      | true =>
        refine iteT (stPut (K := K) (d := d) (f := setF f1 [.inr "key", .inl nn, .inl h] .none) (n := n + 2) (k := [.inr "hold", .inl nn]) (e := .none) rfl d3 (by omega) (by show 2 ≤ 3; decide) trivial sm_non (fun R z => z _ _ (Same.refl _) .non) (fun H' R s' z => ⟨_, rfl, t, _, _, _, rfl, rfl, SqT_same s' hs3, atI_nat (j := 5) rfl, z⟩) fun H4 o4 t4 d4 => ?_)
        exact q2 H4 (o3.trans o4) (t3.trans t4) (by rw [← hf1] at d4; exact d4)
      | false => exact iteF (q2 H3 o3 t3 ((by rw [← hf1] at d3; exact d3 : DTat K H3 d (applyF g _) _).mono (by omega)))
    | reserve nn w =>
      obtain ⟨x1, r1, rfl, e1, b1⟩ := dpAll_cons hdp2
      obtain rfl := dp_int e1
      obtain ⟨x2, r2, rfl, e2, b2⟩ := dpAll_cons b1
      obtain rfl := dp_strv e2
      obtain rfl := dpAll_nil b2
      refine elF rfl (by dsimp only [kindS]; decide) ?_
      refine elF rfl (by dsimp only [kindS]; decide) ?_
      refine elF rfl (by dsimp only [kindS]; decide) ?_
      refine elF rfl (by dsimp only [kindS]; decide) ?_
      refine orF rfl (by dsimp only [kindS]; decide) (by dsimp only [kindS]; decide) ?_
      refine elF rfl (by dsimp only [kindS]; decide) ?_
      refine elF rfl (by dsimp only [kindS]; decide) ?_
      refine elF rfl (by dsimp only [kindS]; decide) ?_
      refine elF rfl (by dsimp only [kindS]; decide) ?_
      refine stPut (K := K) (d := d) (f := f1) (n := n + 1) (k := [.inr "hold", .inl nn]) (e := .tuple [.int h, .str w]) rfl hd2 (by omega) (by show 2 ≤ 3; decide) trivial (sm_hold hok) (fun R z => ⟨_, rfl, _, rfl, _, rfl, t, _, _, _, rfl, rfl, hs2, (by exact atI_last [_, _, _, _, _, _] _), by show 2 ≤ sizeLine; decide, fun u hu => ⟨by show 2 ≤ sizeLine; decide, fun l hl => ⟨_, rfl, rfl, .inr ⟨_, rfl, l, _, _, _, rfl, rfl, SqL.of upd_same, atI_nat (j := 1) rfl, z _ _ ((same_new hu).trans (same_new hl)) (.tup (SqT.of (same_new hl _ _ upd_same)) (.cons (.int _) (.cons (.str _) .nil)))⟩⟩⟩⟩) (fun H' R s' z => ⟨_, rfl, t, _, _, _, rfl, rfl, SqT_same s' hs2, atI_nat (j := 5) rfl, z⟩) fun H3 o3 t3 d3 => ?_
      exact q2 H3 o3 t3 ((by rw [← hf1] at d3; exact d3 : DTat K H3 d (applyF g _) _).mono (by omega))
    | release nn =>
      obtain ⟨x1, r1, rfl, e1, b1⟩ := dpAll_cons hdp2
      obtain rfl := dp_int e1
      obtain rfl := dpAll_nil b1
      refine elF rfl (by dsimp only [kindS]; decide) ?_
      refine elF rfl (by dsimp only [kindS]; decide) ?_
      refine elF rfl (by dsimp only [kindS]; decide) ?_
      refine elF rfl (by dsimp only [kindS]; decide) ?_
      refine orF rfl (by dsimp only [kindS]; decide) (by dsimp only [kindS]; decide) ?_
      refine elF rfl (by dsimp only [kindS]; decide) ?_
      refine elF rfl (by dsimp only [kindS]; decide) ?_
      refine elF rfl (by dsimp only [kindS]; decide) ?_
      refine elF rfl (by dsimp only [kindS]; decide) ?_
      refine stPut (K := K) (d := d) (f := f1) (n := n + 1) (k := [.inr "hold", .inl nn]) (e := .none) rfl hd2 (by omega) (by show 2 ≤ 3; decide) trivial sm_non (fun R z => ⟨_, rfl, _, rfl, _, rfl, t, _, _, _, rfl, rfl, hs2, (by exact atI_last [_, _, _, _, _] _), by show 2 ≤ sizeLine; decide, fun u hu => ⟨by show 2 ≤ sizeLine; decide, fun l hl => ⟨_, rfl, rfl, .inr ⟨_, rfl, l, _, _, _, rfl, rfl, SqL.of upd_same, atI_nat (j := 0) rfl, z _ _ ((same_new hu).trans (same_new hl)) .non⟩⟩⟩⟩) (fun H' R s' z => ⟨_, rfl, t, _, _, _, rfl, rfl, SqT_same s' hs2, atI_nat (j := 5) rfl, z⟩) fun H3 o3 t3 d3 => ?_
      exact q2 H3 o3 t3 ((by rw [← hf1] at d3; exact d3 : DTat K H3 d (applyF g _) _).mono (by omega))
    | preempt nn v w =>
      obtain ⟨x1, r1, rfl, e1, b1⟩ := dpAll_cons hdp2
      obtain rfl := dp_int e1
      obtain ⟨x2, r2, rfl, e2, b2⟩ := dpAll_cons b1
      obtain rfl := dp_int e2
      obtain ⟨x3, r3, rfl, e3, b3⟩ := dpAll_cons b2
      obtain rfl := dpAll_nil b3
      refine elF rfl (by dsimp only [kindS]; decide) ?_
      refine elF rfl (by dsimp only [kindS]; decide) ?_
      refine elF rfl (by dsimp only [kindS]; decide) ?_
      refine elF rfl (by dsimp only [kindS]; decide) ?_
      refine orF rfl (by dsimp only [kindS]; decide) (by dsimp only [kindS]; decide) ?_
      refine elF rfl (by dsimp only [kindS]; decide) ?_
      refine elF rfl (by dsimp only [kindS]; decide) ?_
      refine elF rfl (by dsimp only [kindS]; decide) ?_
      refine elT rfl ?_
      refine stPutS (K := K) (d := d) (f := f1) (n := n + 1) (k := [.inr "key", .inl nn, .inl v]) (e := .none) rfl hd2 (by omega) (by show 3 ≤ 3; decide) trivial sm_non (fun R z => z _ _ (Same.refl _) .non) (fun H' R s' z => ⟨_, rfl, t, _, _, _, rfl, rfl, SqT_same s' hs2, atI_nat (j := 5) rfl, _, rfl, t, _, _, _, rfl, rfl, SqT_same s' hs2, atI_nat (j := 6) rfl, z⟩) fun H3 o3 t3 d3 => ?_
      have hs3 := sqT_tk hs2 t3
      refine ⟨_, rfl, t, _, _, _, rfl, rfl, hs3, atI_nat (j := 7) rfl, rfl, _, rfl, ?_⟩
      have e3' := dp_tk t3 _ _ (by cases w <;> simp [wayD, noL]) e3
      cases w with
      | none =>
        obtain rfl := dp_none e3
        exact iteF (q2 H3 o3 t3 ((by rw [← hf1] at d3; exact d3 : DTat K H3 d (applyF g _) _).mono (by omega)))
      | some w =>
        obtain rfl := dp_strv e3
        refine iteT (stPut (K := K) (d := d) (f := setF f1 [.inr "key", .inl nn, .inl v] .none) (n := n + 2) (k := [.inr "hold", .inl nn]) (e := .tuple [.int h, .str w]) rfl d3 (by omega) (by show 2 ≤ 3; decide) trivial (sm_hold hok) (fun R z => ⟨_, rfl, _, rfl, t, _, _, _, rfl, rfl, hs3, atI_nat (j := 7) rfl, by show 2 ≤ sizeLine; decide, fun u hu => z _ _ (same_new hu) (.tup (SqT.of upd_same) (.cons (.int _) (.cons (.str _) .nil)))⟩) (fun H' R s' z => ⟨_, rfl, t, _, _, _, rfl, rfl, SqT_same s' hs3, atI_nat (j := 5) rfl, z⟩) fun H4 o4 t4 d4 => ?_)
        exact q2 H4 (o3.trans o4) (t3.trans t4) (by rw [← hf1] at d4; exact d4)

end
end Sg

set_option Elab.async false
set_option linter.all false
set_option maxRecDepth 100000
set_option maxHeartbeats 8000000
namespace Sg
open PySem PySem.Spec PyProof.Rows L2
/-! ### the table and the law's own state -/
def isGone : List Key → Bool
  | .inr s :: _ => decide (s = "gone")
  | _ => false
def goneK (n : Int) : List Key := [.inr "gone", .inl n]
def after (T O : KF) (t : List Key) : Bool := match T (goneK (nsK t)), O t with
  | some (.int g), some (.int o) => decide (o < g)
  | _, _ => false
def specS (T O : KF) : KF := fun t => match T t with
  | none => none
  | some v => if isGone t = true then none else if hideB t = false ∧ after T O t = true then some .none else some v
structure OInv (T O : KF) (k m : Int) : Prop where
  o : ∀ t, (T t).isSome = true → ∃ o, O t = some (.int o) ∧ o ≤ m ∧ (hideB t = false → o ≤ k) ∧ (isGone t = true → T t = some (.int o))
theorem set_same {f : KF} {k : List Key} {e : PyData} : setF f k e k = some e := if_pos rfl
theorem set_ne {f : KF} {k t : List Key} {e : PyData} (h : t ≠ k) : setF f k e t = f t := if_neg h
theorem gone_ne {k : List Key} {n : Int} (h : isGone k = false) : goneK n ≠ k := fun e => by
  rw [← e, show isGone (goneK n) = true from rfl] at h; cases h
theorem spec_some {T O : KF} {t : List Key} {v : PyData} (h : T t = some v) : specS T O t = if isGone t = true then none else if hideB t = false ∧ after T O t = true then some .none else some v := by
  unfold specS; rw [h]
theorem spec_none {T O : KF} {t : List Key} (h : T t = none) : specS T O t = none := by
  unfold specS; rw [h]
theorem step1 {T O : KF} {k m : Int} {e : List Key} {v : PyData} (I : OInv T O k m) (hg : isGone e = false) : specS (setF T e v) (setF O e (.int m)) = setF (specS T O) e v := by
  funext t
  have g1 : ∀ n, setF T e v (goneK n) = T (goneK n) := fun n => set_ne (gone_ne hg)
  by_cases h : t = e
  · subst h
    rw [set_same, spec_some (v := v) set_same, if_neg (by rw [hg]; decide)]
    refine if_neg fun z => ?_
    have z2 := z.2
    unfold after at z2
    rw [g1, set_same] at z2
    cases h3 : T (goneK (nsK t)) with
    | none => rw [h3] at z2; cases z2
    | some w =>
      obtain ⟨o, _, a2, _, a4⟩ := I.o (goneK (nsK t)) (by rw [h3]; rfl)
      have a5 := a4 rfl
      rw [h3] at a5
      rw [h3, Option.some.inj a5] at z2
      have := of_decide_eq_true z2
      omega
  · rw [set_ne h]
    have e1 : after (setF T e v) (setF O e (.int m)) t = after T O t := by
      unfold after
      rw [g1, set_ne h]
    unfold specS
    rw [set_ne h, e1]
theorem OInv.set {T O : KF} {k m : Int} {e : List Key} {v : PyData} (I : OInv T O k m) (hg : isGone e = false ∨ v = .int m) (hh : hideB e = true ∨ k = m) : OInv (setF T e v) (setF O e (.int m)) k m := by
  refine ⟨fun t ht => ?_⟩
  by_cases h : t = e
  · subst h
    refine ⟨m, set_same, Int.le_refl _, fun z => ?_, fun z => ?_⟩
    · rcases hh with y | y
      · rw [y] at z; cases z
      · omega
    · rcases hg with y | y
      · rw [y] at z; cases z
      · rw [set_same, y]
  · rw [set_ne h] at ht ⊢
    rw [set_ne h]
    exact I.o t ht
theorem OInv.up {T O : KF} {k m : Int} (I : OInv T O k m) (h : k ≤ m) : OInv T O m m := ⟨fun t ht => by
  obtain ⟨o, a, b, c, d⟩ := I.o t ht
  exact ⟨o, a, b, fun _ => b, d⟩⟩
theorem step2 {T O : KF} {k m n : Int} (I : OInv T O k m) (hk : k < m) : specS (setF T (goneK n) (.int m)) (setF O (goneK n) (.int m)) = goneF (specS T O) n := by
  funext t
  by_cases h : t = goneK n
  · subst h
    rw [spec_some (v := .int m) set_same, if_pos (show isGone (goneK n) = true from rfl)]
    unfold goneF
    have e0 : specS T O (goneK n) = none := by
      cases h3 : T (goneK n) with
      | none => exact spec_none h3
      | some w => rw [spec_some h3, if_pos (show isGone (goneK n) = true from rfl)]
    rw [e0]; rfl
  · cases h3 : T t with
    | none =>
      rw [spec_none (by rw [set_ne h]; exact h3)]
      unfold goneF
      rw [spec_none h3]; rfl
    | some w =>
      rw [spec_some (v := w) (by rw [set_ne h]; exact h3)]
      unfold goneF
      rw [spec_some h3]
      cases hg : isGone t with
      | true => rw [if_pos rfl, if_pos rfl]; rfl
      | false =>
        rw [if_neg Bool.false_ne_true, if_neg Bool.false_ne_true]
        cases hh : hideB t with
        | true =>
          rw [if_neg (fun z => by cases z.1), if_neg (fun z => nomatch z.2.1), if_neg (fun z => by cases z.1)]
        | false =>
          obtain ⟨o, b1, b2, b3, b4⟩ := I.o t (by rw [h3]; rfl)
          have b5 := b3 hh
          by_cases hn : nsK t = n
          · have a1 : after (setF T (goneK n) (.int m)) (setF O (goneK n) (.int m)) t = true := by
              unfold after
              rw [hn, set_same, set_ne h, b1]
              exact decide_eq_true (by omega)
            rw [if_pos ⟨rfl, a1⟩]
            split
            · rw [if_pos ⟨rfl, rfl, hn⟩]
            · rw [if_pos ⟨rfl, rfl, hn⟩]
          · have a1 : after (setF T (goneK n) (.int m)) (setF O (goneK n) (.int m)) t = after T O t := by
              unfold after
              rw [set_ne h, set_ne (fun z => hn (by have := congrArg nsK z; exact this))]
            rw [a1]
            split
            · rw [if_neg (fun z => hn z.2.2)]
            · rw [if_neg (fun z => hn z.2.2)]
def setO (m : Int) (f : KF) (e : Ef) : KF := setF f e.1 (.int m)
theorem fold1 {m : Int} : ∀ (es : List Ef) {T O : KF}, OInv T O m m → (∀ e ∈ es, isGone e.1 = false) → specS (es.foldl setE T) (es.foldl (setO m) O) = es.foldl setE (specS T O) ∧ OInv (es.foldl setE T) (es.foldl (setO m) O) m m
  | [], _, _, I, _ => ⟨rfl, I⟩
  | e :: es, T, O, I, h => by
    have hg := h e List.mem_cons_self
    have s := step1 (v := e.2) I hg
    have I1 := I.set (v := e.2) (.inl hg) (.inr rfl)
    obtain ⟨a, b⟩ := fold1 es I1 fun x hx => h x (List.mem_cons_of_mem _ hx)
    refine ⟨?_, b⟩
    rw [List.foldl_cons, List.foldl_cons, List.foldl_cons]
    refine a.trans ?_
    show List.foldl setE (specS (setF T e.1 e.2) (setF O e.1 (.int m))) es = _
    rw [s]; rfl
theorem apply_spec {T O : KF} {k : Int} {r : Rc} (I : OInv T O k k) (ho : r.o = k + 1) : specS ((effR r).foldl setE T) ((effR r).foldl (setO (k + 1)) O) = applyF (specS T O) r ∧ OInv ((effR r).foldl setE T) ((effR r).foldl (setO (k + 1)) O) (k + 1) (k + 1) := by
  have I0 : OInv T O k (k + 1) := ⟨fun t ht => by
    obtain ⟨o, a, b, c, d⟩ := I.o t ht
    exact ⟨o, a, by omega, c, d⟩⟩
  have hg : isGone (effH r).1 = false := rfl
  have s := step1 (v := (effH r).2) I0 hg
  have I1 := I0.set (v := (effH r).2) (.inl hg) (.inl rfl)
  have main : (∀ e ∈ effB r.o r.h r.b, isGone e.1 = false) → specS ((effR r).foldl setE T) ((effR r).foldl (setO (k + 1)) O) = (effB r.o r.h r.b).foldl setE (setE (specS T O) (effH r)) ∧ OInv ((effR r).foldl setE T) ((effR r).foldl (setO (k + 1)) O) (k + 1) (k + 1) := fun h => by
    obtain ⟨a, b⟩ := fold1 (effB r.o r.h r.b) (I1.up (by omega)) h
    refine ⟨a.trans ?_, b⟩
    rw [s]; rfl
  obtain ⟨o, h, s', c, b⟩ := r
  cases b with
  | remove n =>
    have ho' : o = k + 1 := ho
    subst ho'
    have s2 := step2 (n := n) I1 (show k < k + 1 by omega)
    refine ⟨?_, ?_⟩
    · show specS (setF (setF T _ _) (goneK n) (.int (k + 1))) (setF (setF O _ (.int (k + 1))) (goneK n) (.int (k + 1))) = goneF (setE (specS T O) _) n
      refine s2.trans ?_
      rw [s]; rfl
    · exact (I1.up (by omega)).set (e := goneK n) (v := .int (k + 1)) (.inr rfl) (.inr rfl)
  | leave n held => cases held <;> exact main (fun e he => by simp [effB] at he; rcases he with rfl | rfl <;> rfl)
  | preempt n v w => cases w <;> exact main (fun e he => by simp [effB] at he; rcases he with rfl | rfl <;> rfl)
  | _ => exact main (fun e he => by simp [effB] at he; subst he; rfl)
theorem OInv.nil : OInv (fun _ => none) (fun _ => none) 0 0 := ⟨fun _ h => by cases h⟩
end Sg

set_option Elab.async false
set_option linter.all false
set_option maxRecDepth 100000
set_option maxHeartbeats 8000000
namespace Sg
open PySem PySem.Spec PyProof.Rows L2
def spLaw (K : PySem.W.Frag) : Sp := fun vs H Q _ => ∃ (a : Addr) (ns : List Int), vs = [.ref a] ∧ SqL K H a (ns.map V.int) ∧ ns.length ≤ 63 ∧ ∀ H', Q (.bl true) H'
structure BL (mg : Str → Option Value) : Prop where
  len : mg "len" = none
  range : mg "range" = none
  min : mg "min" = none
  isi : mg "isinstance" = none
  lst : mg "list" = none
  tup : mg "tuple" = none
def effD (e : Ef) : PyData := .tuple [topD e.1, e.2]
theorem EffAt.dp {K : PySem.W.Frag} {H : Hp} {p : Addr} {e : Ef} (h : EffAt K H p e) : Dp K H (.ref p) (effD e) := by
  obtain ⟨t, v, a, b, c⟩ := h
  exact .tup (SqT.of a) (.cons (dp_top b) (.cons c .nil))
theorem effs_dp {K : PySem.W.Frag} {H : Hp} : ∀ {ps : List Addr} {es : List Ef}, Paired (EffAt K H) ps es → DpAll K H (ps.map V.ref) (es.map effD)
  | _, _, .nil => .nil
  | _, _, .cons r t => .cons r.dp (effs_dp t)
theorem EffAt.tk {K : PySem.W.Frag} {H H' : Hp} {p : Addr} {e : Ef} (h : EffAt K H p e) (s : TK H H') (sm : noL e.2 = true) : EffAt K H' p e := by
  obtain ⟨t, v, a, b, c⟩ := h
  exact ⟨t, v, s.t _ _ a, s.t _ _ b, dp_tk s _ _ sm c⟩
theorem lay2 {s : Str} {n : Int} (h : (PyData.str s).canLay0 = true) : (topD [.inr s, .inl n]).canLay0 = true := by
  simp [topD, keyD, PyData.canLay0, PyData.canLayAll0] at h ⊢; exact h
theorem lay3 {s : Str} {n m : Int} (h : (PyData.str s).canLay0 = true) : (topD [.inr s, .inl n, .inl m]).canLay0 = true := by
  simp [topD, keyD, PyData.canLay0, PyData.canLayAll0] at h ⊢; exact h
theorem key_lay {r : Rc} : ∀ e ∈ effR r, (topD e.1).canLay0 = true := by
  have l1 : (PyData.str "host").canLay0 = true := by decide +kernel
  have l2 : (PyData.str "told").canLay0 = true := by decide +kernel
  have l3 : (PyData.str "space").canLay0 = true := by decide +kernel
  have l4 : (PyData.str "gone").canLay0 = true := by decide +kernel
  have l5 : (PyData.str "place").canLay0 = true := by decide +kernel
  have l6 : (PyData.str "snap").canLay0 = true := by decide +kernel
  have l7 : (PyData.str "key").canLay0 = true := by decide +kernel
  have l8 : (PyData.str "hold").canLay0 = true := by decide +kernel
  obtain ⟨o, h, s, c, b⟩ := r
  intro e he
  rcases List.mem_cons.mp he with rfl | he
  · exact lay2 l1
  · cases b with
    | mark d => rw [List.mem_singleton.mp he]; exact lay2 l2
    | make n z => rw [List.mem_singleton.mp he]; exact lay2 l3
    | remove n => rw [List.mem_singleton.mp he]; exact lay2 l4
    | write n p v => rw [List.mem_singleton.mp he]; exact lay3 l5
    | trim n p => rw [List.mem_singleton.mp he]; exact lay3 l5
    | snap n => rw [List.mem_singleton.mp he]; exact lay3 l6
    | drop n s => rw [List.mem_singleton.mp he]; exact lay3 l6
    | register n => rw [List.mem_singleton.mp he]; exact lay3 l7
    | reserve n w => rw [List.mem_singleton.mp he]; exact lay2 l8
    | release n => rw [List.mem_singleton.mp he]; exact lay2 l8
    | leave n held =>
      cases held with
      | false => rw [List.mem_singleton.mp he]; exact lay3 l7
      | true =>
        rcases List.mem_cons.mp he with rfl | he
        · exact lay3 l7
        · rw [List.mem_singleton.mp he]; exact lay2 l8
    | preempt n v w =>
      cases w with
      | none => rw [List.mem_singleton.mp he]; exact lay3 l7
      | some w =>
        rcases List.mem_cons.mp he with rfl | he
        · exact lay3 l7
        · rw [List.mem_singleton.mp he]; exact lay2 l8
theorem shaped_of {d : PyData} (h : d.canLay0 = true) (h' : d.depth ≤ 64) : SeqAt.shaped d = true := by
  show (d.canLay0 && decide (d.depth ≤ 64)) = true
  rw [Bool.and_eq_true]; exact ⟨h, decide_eq_true h'⟩
theorem eff_sh {e : Ef} (h : (topD e.1).canLay0 = true) (s : Sm e.2) (t : TopK e.1) : (effD e).canLay0 = true ∧ (effD e).depth ≤ 5 := by
  have := top_depth t
  have := s.2.1
  refine ⟨?_, ?_⟩
  · simp [effD, PyData.canLay0, PyData.canLayAll0, h, s.1]
  · simp only [effD, PyData.depth, PyData.depthAll]; omega
theorem effs_sh : ∀ {es : List Ef}, (∀ e ∈ es, (effD e).canLay0 = true ∧ (effD e).depth ≤ 5) → PyData.canLayAll0 (es.map effD) = true ∧ PyData.depthAll (es.map effD) ≤ 5
  | [], _ => ⟨by simp [PyData.canLayAll0], by simp [PyData.depthAll]⟩
  | e :: es, h => by
    obtain ⟨a, b⟩ := effs_sh fun x hx => h x (List.mem_cons_of_mem e hx)
    obtain ⟨c, d⟩ := h e List.mem_cons_self
    refine ⟨?_, ?_⟩
    · simp only [List.map_cons, PyData.canLayAll0, a, c, Bool.and_self]
    · simp only [List.map_cons, PyData.depthAll]; omega
theorem told_sh {r : Rc} (h : BdOk r.b) : SeqAt.shaped (.list ((effR r).map effD)) = true := by
  obtain ⟨a, b⟩ := effs_sh (es := effR r) fun e he => eff_sh (key_lay e he) (sm_eff h e he).1 (sm_eff h e he).2.1
  refine shaped_of ?_ ?_
  · simp only [PyData.canLay0]; exact a
  · simp only [PyData.depth]; omega
theorem effR_len (r : Rc) : (effR r).length ≤ 3 := by
  obtain ⟨o, h, s, c, b⟩ := r
  cases b with
  | leave n held => cases held <;> simp [effR, effB]
  | preempt n v w => cases w <;> simp [effR, effB]
  | _ => simp [effR, effB]
theorem DTat.new {K : PySem.W.Frag} {H : Hp} {d : Addr} (h : H d = some (.dT [])) : DTat K H d (fun _ => none) 0 := ⟨[], h, Nat.le_refl _, fun _ => trivial, fun _ z => by cases z⟩
theorem spec_nil : specS (fun _ => none) (fun _ => none) = fun _ => none := rfl
theorem nin2 {a b c : Addr} (h : a ≠ b) (h' : a ≠ c) : a ∉ [b, c] := by
  rw [List.mem_cons, List.mem_singleton]
  rintro (z | z)
  · exact h z
  · exact h' z
theorem vs2 {p : Addr} {x y : Int} (h : x = y) : [V.ref p, V.int x] = [V.ref p, V.int y] := by rw [h]
theorem vs4 {a b c d a' b' c' d' : Int} (h1 : a = a') (h2 : b = b') (h3 : c = c') (h4 : d = d') : [V.int a, V.int b, V.int c, V.int d] = [V.int a', V.int b', V.int c', V.int d'] := by rw [h1, h2, h3, h4]
theorem paired_at {α β : Type} {F : α → β → Prop} : ∀ {a : List α} {b : List β} {i : Nat} {x : α}, Paired F a b → a[i]? = some x → ∃ y, b[i]? = some y ∧ F x y
  | _, _, 0, _, .cons r _, h => ⟨_, rfl, by rw [← Option.some.inj h]; exact r⟩
  | _, _, i + 1, x, .cons (a := p) _ t, h => paired_at (i := i) t (by simpa using h)
theorem RecAt.tk {K : PySem.W.Frag} {H H' : Hp} {t : Addr} {r : Rc} (h : RecAt K H t r) (s : TK H H') (ok : BdOk r.b) : RecAt K H' t r := by
  obtain ⟨ys, a, b⟩ := h
  exact ⟨ys, sqT_tk a s, dpAll_tk s _ _ (fld_noL ok) b⟩
theorem DTat.get {K : PySem.W.Frag} {H : Hp} {d : Addr} {f : KF} {n : Nat} (h : DTat K H d f n) : ∃ kvs, H d = some (.dT kvs) ∧ ∀ k, RO K H (valV kvs k) (f k) := by
  obtain ⟨kvs, a, b⟩ := h
  exact ⟨kvs, a, b.rel⟩
theorem DTat.off' {K : PySem.W.Frag} {H H' : Hp} {d : Addr} {f : KF} {n : Nat} {xs : List Addr} (h : DTat K H d f n) (o : Off xs H H') (t : TK H H') (nd : d ∉ xs) : DTat K H' d f n := h.off o t nd
structure DD (K : PySem.W.Frag) (H : Hp) (tb od st : Addr) (T O : KF) (n : Nat) : Prop where
  t : DTat K H tb T n
  o : DTat K H od O n
  s : DTat K H st (specS T O) n
section
variable {P : Program} {wrl : World} {K : PySem.W.Frag} {mg : Str → Option Value} {base : Heap} {f fT fA fR fE fU fP : Addr} {fd fdT fdA fdR fdE fdU fdP : FuncData}
abbrev LN : List Str := ["script","tape","table","orders","state","k","record","told","pair","topic","value"]
theorem scLaw : FnScope LN ["script"] (defScope sLaw) := ⟨rfl, rfl, rfl, by decide +kernel, rfl, by decide +kernel, by decide +kernel⟩
theorem ok_law (F : Fun K "law" "law" sLaw f fd) (B : BL mg) (GT : Def P wrl K mg base CX0 "_law_tape" 1 ["script"] (spTape K) fT fdT) (GA : Def P wrl K mg base CX0 "_law_at" 1 ["tape", "k"] (spAt K) fA fdA)
    (GR : Def P wrl K mg base CX0 "_law_record" 7 ["order","number","pick","other"] (spLRecord K) fR fdR) (GE : Def P wrl K mg base CX0 "effects" 2 ["record"] (spEffects K) fE fdE)
    (GU : Def P wrl K mg base CX0 "_law_due" 2 ["record"] (spEffects K) fU fdU) (GP : Def P wrl K mg base CX0 "_law_apply" 2 ["state","record"] (spLApply K) fP fdP) : FnOk P wrl K mg base CX0 8 f fd ["script"] (spLaw K) := by
  refine F.ok scLaw (fun vs H Q E h => ?_) (fun cdv A outer s H vs Q E hr h => ?_)
  · obtain ⟨a, ns, rfl, _⟩ := h
    rfl
  · obtain ⟨a, ns, rfl, hS, hlen, q⟩ := h
    have hr1 : Room 1 _ := hr.mono (by decide)
    have hr2 : Room 2 _ := hr.mono (by decide)
    refine ⟨_, (pss_cons (ps_set (i := 1) scLaw.nd rfl (Or.inl rfl) (pe_call GT.ok hr1 (by rfl) GT.mg GT.kp GT.bd .nil pass0 (pa_cons (pv 0) pa_nil)))
      (pss_cons (ps_set (i := 2) scLaw.nd rfl (Or.inl rfl) pe_dnewT)
      (pss_cons (ps_set (i := 3) scLaw.nd rfl (Or.inl rfl) pe_dnewT)
      (pss_cons (ps_set (i := 4) scLaw.nd rfl (Or.inl rfl) pe_dnewT)
      (pss_cons (ps_for PassesOwn.never rfl (pi_range1 (by rfl) B.range (pa_cons (pe_callB (call_min2 rfl) (by rfl) B.min (by decide +kernel) (pa_cons pe_int (pa_cons (pe_op op_add pe_int (pe_op op_fdiv (pe_callB call_len_seq (by rfl) B.len PySem.boot_len (pa_cons (pv 1) pa_nil)) pe_int)) pa_nil))) pa_nil)) (pg_name (i := 5) scLaw.nd rfl (Or.inl rfl))
      (pss_cons (ps_set (i := 6) scLaw.nd rfl (Or.inl rfl) (pe_call GR.ok hr (by rfl) GR.mg GR.kp GR.bd .nil pass0 (pa_cons (pe_op op_add (pv 5) pe_int) (pa_cons (pe_call GA.ok hr1 (by rfl) GA.mg GA.kp GA.bd .nil pass0 (pa_cons (pv 1) (pa_cons (pe_op op_mul pe_int (pv 5)) pa_nil))) (pa_cons (pe_call GA.ok hr1 (by rfl) GA.mg GA.kp GA.bd .nil pass0 (pa_cons (pv 1) (pa_cons (pe_op op_add (pe_op op_mul pe_int (pv 5)) pe_int) pa_nil))) (pa_cons (pe_call GA.ok hr1 (by rfl) GA.mg GA.kp GA.bd .nil pass0 (pa_cons (pv 1) (pa_cons (pe_op op_add (pe_op op_mul pe_int (pv 5)) pe_int) pa_nil))) pa_nil))))))
      (pss_cons (ps_set (i := 7) scLaw.nd rfl (Or.inl rfl) (pe_call GE.ok hr2 (by rfl) GE.mg GE.kp GE.bd .nil pass0 (pa_cons (pv 6) pa_nil)))
      (pss_cons (ps_if (PW.pt (pw_or (pt_not (pt_val (pe_callB call_isi (by rfl) B.isi boot_isi (pa_cons (pv 7) (pa_cons (pe_bltn (v := .ty "list") (by rfl) B.lst boot_list rfl) pa_nil))))) (pw_or1 (pt_cmpR (op_neD hr.units) (pv 7) (pe_call GU.ok hr2 (by rfl) GU.mg GU.kp GU.bd .nil pass0 (pa_cons (pv 6) pa_nil)) (nomark _)))))
      (pss_one (ps_ret pe_bl)) pss_nil)
      (pss_cons (ps_for PassesOwn.never rfl (pi_list (pv 7)) (pg_name (i := 8) scLaw.nd rfl (Or.inl rfl))
      (pss_cons (ps_if (PW.pt (pw_or (pt_not (pt_val (pe_callB call_isi (by rfl) B.isi boot_isi (pa_cons (pv 8) (pa_cons (pe_bltn (v := .ty "tuple") (by rfl) B.tup boot_tuple rfl) pa_nil))))) (pw_or1 (pt_not (pt_val (pe_callB call_isi (by rfl) B.isi boot_isi (pa_cons (pe_ix ix_tup (pv 8) pe_int (fun _ _ => rfl)) (pa_cons (pe_bltn (v := .ty "tuple") (by rfl) B.tup boot_tuple rfl) pa_nil))))))))
      (pss_one (ps_ret pe_bl)) pss_nil)
      (pss_cons (ps_dput (hu_of hr) (pv 2) (pe_ix ix_tup (pv 8) pe_int (fun _ _ => rfl)) (pe_ix ix_tup (pv 8) pe_int (fun _ _ => rfl)) rfl)
      (pss_one (ps_dput (hu_of hr) (pv 3) (pe_ix ix_tup (pv 8) pe_int (fun _ _ => rfl)) (pe_op op_add (pv 5) pe_int) rfl)))))
      (pss_one (ps_expr (pe_call GP.ok hr2 (by rfl) GP.mg GP.kp GP.bd .nil pass0 (pa_cons (pv 4) (pa_cons (pv 6) pa_nil))))))))))
      (pss_cons (ps_lock (ps_for PassesOwn.never rfl (pi_keys (pv 4)) (pg_name (i := 9) scLaw.nd rfl (Or.inl rfl))
      (pss_cons (ps_set (i := 10) scLaw.nd rfl (Or.inl rfl) (pe_dget2 (hu_of hr) (pv 2) (pv 9) pe_non ⟨rfl, rfl, rfl, rfl⟩))
      (Evl.pss_cut (ps_if (PW.pt (pw_and (pt_cmpR op_notIn_seq (pe_ix ix_tup (pv 9) pe_int (fun _ _ => rfl)) (pe_tup (pa_cons pe_str (pa_cons pe_str pa_nil))) (by rfl)) (pw_and (pt_cmp (pc_din (hu_of hr) (pe_tup (pa_cons pe_str (pa_cons (pe_ix ix_tup (pv 9) pe_int (fun _ _ => rfl)) pa_nil))) (pv 2))) (pw_and1 (pt_cmpR op_gt (pe_dget (hu_of hr) (pv 2) (pe_tup (pa_cons pe_str (pa_cons (pe_ix ix_tup (pv 9) pe_int (fun _ _ => rfl)) pa_nil))) (fun _ _ => rfl)) (pe_dget (hu_of hr) (pv 3) (pv 9) (fun _ _ => rfl)) (nomark _))))))
      (pss_one (ps_set (i := 10) scLaw.nd rfl (Or.inl rfl) pe_non)) pss_nil)
      (pss_one (ps_if (pt_cmpR (op_neD hr.units) (pv 10) (pe_dget (hu_of hr) (pv 4) (pv 9) (fun _ _ => rfl)) (nomark _))
      (pss_one (ps_ret pe_bl)) pss_nil))))))
      (pss_one (ps_ret pe_bl)))))))), ?_⟩
    refine ⟨_, rfl, a, ns, rfl, hS, hlen, fun tp ts htp hts htl => ?_⟩
    have htape : (upd H tp (.lst (ts.map V.int))) tp = some (.lst (ts.map V.int)) := upd_same
    generalize upd H tp (.lst (ts.map V.int)) = H0 at htape
    refine fun tb htb => ?_
    have htape1 := same_new (o := .dT []) htb _ _ htape
    have e1 : tb ≠ tp := fun e => by rw [e, htape] at htb; cases htb
    refine fun od hod => ?_
    have e2 : od ≠ tp := fun e => by rw [e, htape1] at hod; cases hod
    have e3 : od ≠ tb := fun e => by rw [e, upd_same] at hod; cases hod
    refine fun st hst => ?_
    have htape2 := same_new (o := .dT []) hod _ _ htape1
    have hb2 : upd (upd H0 tb (.dT [])) od (.dT []) tb = some (.dT []) := same_new (o := .dT []) hod _ _ upd_same
    have e4 : st ≠ tp := fun e => by rw [e, htape2] at hst; cases hst
    have e5 : st ≠ tb := fun e => by rw [e, hb2] at hst; cases hst
    have e6 : st ≠ od := fun e => by rw [e, upd_same] at hst; cases hst
    have s3 := same_new (o := .dT []) hst
    have htape3 := s3 _ _ htape2
    have D0 : DD K (upd (upd (upd H0 tb (.dT [])) od (.dT [])) st (.dT [])) tb od st (fun _ => none) (fun _ => none) 0 := ⟨.new (s3 _ _ hb2), .new (s3 _ _ upd_same), by rw [spec_nil]; exact .new upd_same⟩
    generalize upd (upd (upd H0 tb (.dT [])) od (.dT [])) st (.dT []) = H3 at htape3 D0 ⊢
    clear htb hod hst htape1 htape2 hb2 s3 htape
    refine ⟨_, rfl, tp, _, rfl, .inl (SqL.of htape3), _, _, rfl, rfl, ⟨by decide, by decide⟩, _, _, rfl, rfl, 40, _, rfl, _, rfl, ?_, ?_, ?_⟩
    · rw [List.length_map]; split <;> omega
    · rw [List.length_map]; split <;> omega
    refine for_range (lo := 0) (fun i σ H' => ∃ (v5 v6 v7 v8 : Option V) (T O : KF), σ = [some (.ref a), some (.ref tp), some (.ref tb), some (.ref od), some (.ref st), v5, v6, v7, v8, none, none] ∧ H' tp = some (.lst (ts.map V.int)) ∧ DD K H' tb od st T O (3 * i) ∧ OInv T O (i : Int) (i : Int))
      ⟨none, none, none, none, _, _, rfl, htape3, D0, OInv.nil⟩ ?_ ?_
    · rintro i σ' H' hi ⟨v5, v6, v7, v8, T, O, rfl, ht, D, I⟩
      have hi40 : i < 40 := by
        rw [List.length_map] at hi
        split at hi <;> omega
      obtain ⟨a0, a1⟩ := hts.at (3 * i)
      obtain ⟨b0, b1⟩ := hts.at (3 * i + 1)
      obtain ⟨c0, c1⟩ := hts.at (3 * i + 2)
      refine ⟨_, rfl, _, _, rfl, rfl, _, rfl, _, rfl, _, _, rfl, rfl, .inl ⟨by omega, by omega⟩, tp, ts, 3 * i, vs2 (by omega), SqL.of ht, ?_⟩
      refine ⟨_, rfl, _, rfl, _, _, rfl, rfl, .inl ⟨by omega, by omega⟩, _, _, rfl, rfl, tp, ts, 3 * i + 1, vs2 (by omega), SqL.of ht, ?_⟩
      refine ⟨_, rfl, _, rfl, _, _, rfl, rfl, .inl ⟨by omega, by omega⟩, _, _, rfl, rfl, tp, ts, 3 * i + 2, vs2 (by omega), SqL.of ht, ?_⟩
      refine ⟨i + 1, (ts.getD (3 * i) 0).toNat, (ts.getD (3 * i + 1) 0).toNat, (ts.getD (3 * i + 2) 0).toNat, vs4 (by omega) (by omega) (by omega) (by omega), by omega, fun t1 r H1 s1 hrec ho hok => ?_⟩
      have ho' : r.o = (i : Int) + 1 := by rw [ho]; omega
      -- told
      refine ⟨_, rfl, t1, r, rfl, hrec, fun l ps H2 s2 hl pr => ?_⟩
      have dl : Dp K H2 (.ref l) (.list ((effR r).map effD)) := .lst (SqL.of hl) (effs_dp pr)
      obtain ⟨tl, tyl, _, _, _, _, hkl⟩ := dp_ty dl
      refine ⟨_, rfl, .ref l, _, tl, _, true, rfl, .ty "list", tyl, hkl, true, rfl, iteF ?_⟩
      refine ⟨_, rfl, _, rfl, t1, r, rfl, hrec.same s2, fun l' ps' H3 s3 hl' pr' => ?_⟩
      have dl' : Dp K H3 (.ref l') (.list ((effR r).map effD)) := .lst (SqL.of hl') (effs_dp pr')
      refine ⟨_, _, dp_same s3 _ _ dl, dl', told_sh hok, told_sh hok, _, rfl, ?_⟩
      rw [SeqAt.eqv_refl _ (SeqAt.canLay_of_shaped (told_sh hok))]
      refine iteF ?_
      have s03 := s1.trans (s2.trans s3)
      have D3 : DD K H3 tb od st T O (3 * i) := ⟨D.t.same s03, D.o.same s03, D.s.same s03⟩
      have ht3 := s03 _ _ ht
      have hrec3 := (hrec.same s2).same s3
      have hl3 := s3 _ _ hl
      have pr3 := Paired.imp2 (fun _ _ z => EffAt.same z s3) pr
      have smE := sm_eff hok
      have ltb : l ≠ tb := fun e => by
        obtain ⟨kvs, z, _⟩ := D3.t
        rw [e, z] at hl3; cases hl3
      have lod : l ≠ od := fun e => by
        obtain ⟨kvs, z, _⟩ := D3.o
        rw [e, z] at hl3; cases hl3
      clear s03 hrec hl pr dl tyl hkl hl' pr' dl' s1 s2 s3 ht D
      have hel := effR_len r
      -- for pair in told
      refine ⟨_, rfl, l, rfl, ⟨_, SqL.of hl3⟩, ?_⟩
      refine for_list (K := K) (a := l) (xs := ps.map V.ref) (fun j σ' H' => ∃ v8 : Option V, σ' = [some (.ref a), some (.ref tp), some (.ref tb), some (.ref od), some (.ref st), some (.int (0 + (i : Int))), some (.ref t1), some (.ref l), v8, none, none] ∧ Off [tb, od] H3 H' ∧ TK H3 H' ∧ DTat K H' tb (((effR r).take j).foldl setE T) (3 * i + j) ∧ DTat K H' od (((effR r).take j).foldl (setO ((i : Int) + 1)) O) (3 * i + j))
        ⟨v8, rfl, .refl _, .refl _, D3.t, D3.o⟩ (fun j σ' H' _ ⟨_, _, o, _, _, _⟩ => SqL.of (o _ _ hl3 (nin2 ltb lod))) ?_ ?_
      · rintro j x σ' H' hx ⟨v8', rfl, o, tk, dt, dor⟩
        obtain ⟨p, hp, rfl⟩ := map_get hx
        obtain ⟨e, he, ea⟩ := paired_at pr3 hp
        have hem := List.mem_of_getElem? he
        obtain ⟨sm, tpk, kl⟩ := smE e hem
        have hj : j < (effR r).length := (List.getElem?_eq_some_iff.mp he).1
        have ea := ea.tk tk sm.2.2
        obtain ⟨ty1, y1, _, _, _, k1, _⟩ := dp_ty ea.dp
        obtain ⟨t, v, h1, h2, h3⟩ := ea
        obtain ⟨ty2, y2, _, _, _, k2, _⟩ := dp_ty (dp_top (K := K) h2)
        refine ⟨_, rfl, .ref p, _, ty1, _, true, rfl, .ty "tuple", y1, k1, true, rfl, iteF ?_⟩
        refine ⟨_, rfl, p, _, _, _, rfl, rfl, SqT.of h1, atI_nat (j := 0) rfl, .ref t, _, ty2, _, true, rfl, .ty "tuple", y2, k2, true, rfl, iteF ?_⟩
        refine ⟨_, rfl, p, _, _, _, rfl, rfl, SqT.of h1, atI_nat (j := 1) rfl, _, rfl, _, rfl, p, _, _, _, rfl, rfl, SqT.of h1, atI_nat (j := 0) rfl, ?_⟩
        refine dt.put h2 (by omega) h3 sm tpk fun H4 o4 t4 dt4 => ?_
        have h14 := t4.t _ _ h1
        have h24 := t4.t _ _ h2
        have dor4 := dor.off o4 t4 (by simpa using e3)
        refine ⟨_, rfl, _, _, rfl, rfl, _, rfl, _, rfl, p, _, _, _, rfl, rfl, SqT.of h14, atI_nat (j := 0) rfl, ?_⟩
        refine dor4.put (e := .int ((i : Int) + 1)) h24 (by omega) (by dsimp only; rw [show (0 + (i : Int) + 1) = (i : Int) + 1 by omega]; exact .int _) sm_int tpk fun H5 o5 t5 dor5 => ?_
        refine ⟨_, rfl, o.trans (Off.trans (fun b u hb hn => o4 b u hb (by simp at hn ⊢; exact hn.1)) (fun b u hb hn => o5 b u hb (by simp at hn ⊢; exact hn.2))), tk.trans (t4.trans t5), ?_, ?_⟩
        · have := dt4.off o5 t5 (by simpa using fun z => e3 z.symm)
          rw [List.take_add_one, he, List.foldl_append]
          exact this
        · rw [List.take_add_one, he, List.foldl_append]
          exact dor5
      · rintro σ' H' ⟨v8', rfl, o, tk, dt, dor⟩
        have el : (ps.map V.ref).length = (effR r).length := by rw [List.length_map, pr3.length]
        rw [el, List.take_length] at dt dor
        refine ⟨_, rfl, _, rfl, st, t1, r, specS T O, 3 * i, rfl, D3.s.off o tk (nin2 e5 e6), by omega, hrec3.tk tk hok, hok, fun H4 o4 t4 d4 => ?_⟩
        obtain ⟨q1, q2⟩ := apply_spec I ho'
        refine ⟨_, _, _, _, _, _, rfl, o4 _ _ (o _ _ ht3 (nin2 (fun z => e1 z.symm) (fun z => e2 z.symm))) (by simpa using fun z => e4 (Eq.symm z)), ⟨(dt.off o4 t4 (by simpa using fun z => e5 (Eq.symm z))).mono (by omega), (dor.off o4 t4 (by simpa using fun z => e6 (Eq.symm z))).mono (by omega), ?_⟩, q2⟩
        rw [q1]
        exact d4.mono (by omega)
    · rintro σ' H' ⟨v5, v6, v7, v8, T, O, rfl, ht, D, I⟩
      obtain ⟨⟨kt, hkt, Dt⟩, ⟨ko, hko, Do⟩, ⟨kvs, hks, Ds⟩⟩ := D
      refine ⟨st, .dT kvs, hks, trivial, fun lk => ⟨_, rfl, st, lk, rfl, .inr ⟨kvs, upd_same, ?_⟩⟩⟩
      have tk0 : TK H' (upd H' st (.frz lk (.dT kvs))) := TK.updT hks
      refine for_it walk_keysT (fun i σ' H2 => ∃ v9 v10 : Option V, σ' = [some (.ref a), some (.ref tp), some (.ref tb), some (.ref od), some (.ref st), v5, v6, v7, v8, v9, v10] ∧ H2 st = some (.frz lk (.dT kvs)) ∧ H2 tb = some (.dT kt) ∧ H2 od = some (.dT ko) ∧ TK H' H2)
        ⟨none, none, rfl, upd_same, by rw [upd_ne (fun z => e5 z.symm)]; exact hkt, by rw [upd_ne (fun z => e6 z.symm)]; exact hko, tk0⟩ (fun i σ' H2 _ ⟨_, _, _, h, _⟩ => h) ?_ ?_
      · rintro i x σ' H9 H2 hi ⟨v9, v10, rfl, g1, g2, g3, g4⟩ ⟨rfl, k, v, qa, hki, rfl, hq⟩
        have hv : (valV kvs k).isSome = true := mem_valV (List.mem_of_getElem? hki)
        have rs := (Ds.rel k).tk g4
        have rt := (Dt.rel k).tk g4
        have ro := (Do.rel k).tk g4
        obtain ⟨es, hes⟩ : ∃ e, specS T O k = some e := by
          cases z : specS T O k with
          | none => rw [z] at rs; rw [rs.none] at hv; cases hv
          | some e => exact ⟨e, rfl⟩
        have tpk : TopK k := Ds.top k (by rw [hes]; rfl)
        rw [hes] at rs
        obtain ⟨vs, hvs, dvs, sms⟩ := rs.some
        obtain ⟨e0, he0⟩ : ∃ e, T k = some e := by
          cases z : T k with
          | none => rw [spec_none z] at hes; cases hes
          | some e => exact ⟨e, rfl⟩
        rw [he0] at rt
        obtain ⟨vt, hvt, dvt, smt⟩ := rt.some
        have hgn : isGone k = false := by
          cases z : isGone k with
          | false => rfl
          | true => rw [spec_some he0, if_pos z] at hes; cases hes
        rw [spec_some he0, if_neg (by rw [hgn]; decide)] at hes
        obtain ⟨s0, es0, eh⟩ := topK_0 tpk
        have DG : ∀ {H3 : Hp}, Same H2 H3 → DGet H3 tb (.ref qa) (some vt) := fun {H3} s3 => by
          have := DGet.t (k := k) (s3 _ _ g2) (s3 _ _ hq)
          rw [hvt] at this; exact this
        refine ⟨_, rfl, tb, rfl, .inr ⟨kt, .inl g2⟩, _, rfl, some vt, DG (.refl _), ?_⟩
        refine ⟨fun σ3 H3 => ∃ w, σ3 = [some (.ref a), some (.ref tp), some (.ref tb), some (.ref od), some (.ref st), v5, v6, v7, v8, some (.ref qa), some w] ∧ Same H2 H3 ∧ Dp K H3 w es, ?_, ?_⟩
        · refine ⟨_, rfl, qa, _, _, _, rfl, rfl, SqT.of hq, atI_nat (j := 0) es0, by show 2 ≤ sizeLine; decide, fun t ht => ?_⟩
          have s2 := same_new (o := .tup [V.str "host", V.str "told"]) ht
          refine ⟨t, _, rfl, .inr (SqT.of upd_same), rfl, rfl, _, rfl, ?_⟩
          rw [show inV (V.str s0) [V.str "host", V.str "told"] = hideB k from (inV_str (ns := ["host", "told"])).trans eh.symm]
          cases hb : hideB k with
          | true =>
            rw [if_neg (fun z => by rw [hb] at z; cases z.1)] at hes
            obtain rfl := Option.some.inj hes
            exact iteF (iteF ⟨vt, rfl, s2, dp_same s2 _ _ dvt⟩)
          | false =>
            rw [hb] at hes
            refine iteT ?_
            refine ⟨_, rfl, qa, _, _, _, rfl, rfl, SqT.of (s2 _ _ hq), atI_nat (j := 1) (topK_1 tpk), by show 2 ≤ sizeLine; decide, fun t2 ht2 => ?_⟩
            have s3 := s2.trans (same_new (o := .tup [V.str "gone", V.int (nsK k)]) ht2)
            have rg := (Dt.rel (goneK (nsK k))).tk g4
            refine ⟨_, rfl, tb, _, rfl, DGet.t (k := goneK (nsK k)) (s3 _ _ g2) upd_same, _, rfl, ?_⟩
            cases hg : T (goneK (nsK k)) with
            | none =>
              rw [hg] at rg
              rw [rg.none]
              have ha : after T O k = false := by unfold after; rw [hg]
              rw [ha, if_neg (fun z => by cases z.2)] at hes
              obtain rfl := Option.some.inj hes
              exact iteF (iteF ⟨vt, rfl, s3, dp_same s3 _ _ dvt⟩)
            | some g =>
              obtain ⟨o1, _, _, _, p4⟩ := I.o (goneK (nsK k)) (by rw [hg]; rfl)
              have p5 := p4 rfl
              rw [hg] at p5
              obtain rfl := Option.some.inj p5
              obtain ⟨o2, r1, _, _, _⟩ := I.o k (by rw [he0]; rfl)
              rw [hg] at rg
              obtain ⟨vg, hvg, dvg, _⟩ := rg.some
              obtain rfl := dp_int dvg
              rw [r1] at ro
              obtain ⟨vo, hvo, dvo, _⟩ := ro.some
              obtain rfl := dp_int dvo
              rw [hvg]
              refine iteT ?_
              refine ⟨_, rfl, _, rfl, qa, _, _, _, rfl, rfl, SqT.of (s3 _ _ hq), atI_nat (j := 1) (topK_1 tpk), by show 2 ≤ sizeLine; decide, fun t3 ht3 => ?_⟩
              have s4 := s3.trans (same_new (o := .tup [V.str "gone", V.int (nsK k)]) ht3)
              have dg := DGet.t (k := goneK (nsK k)) (s4 _ _ g2) upd_same
              rw [hvg] at dg
              have do' := DGet.t (k := k) (s4 _ _ g3) (s4 _ _ hq)
              rw [hvo] at do'
              refine ⟨tb, _, rfl, dg, _, rfl, _, rfl, od, _, rfl, do', _, _, rfl, rfl, _, rfl, ?_⟩
              have ha : after T O k = decide (o2 < o1) := by unfold after; rw [hg, r1]
              rw [ha] at hes
              by_cases hlt : o2 < o1
              · rw [if_pos ⟨rfl, decide_eq_true hlt⟩] at hes
                obtain rfl := Option.some.inj hes
                rw [decide_eq_true hlt]
                exact iteT ⟨_, rfl, s4, .non⟩
              · rw [if_neg (fun z => hlt (of_decide_eq_true z.2))] at hes
                obtain rfl := Option.some.inj hes
                rw [decide_eq_false hlt]
                exact iteF ⟨vt, rfl, s4, dp_same s4 _ _ dvt⟩
        · rintro σ3 H3 ⟨w, rfl, s3, dw⟩
          refine ⟨_, rfl, _, rfl, _, rfl, st, vs, rfl, ?_, _, _, dw, dp_same s3 _ _ dvs, shaped_of sms.1 (by have := sms.2.1; omega), shaped_of sms.1 (by have := sms.2.1; omega), _, rfl, ?_⟩
          · exact .inr ⟨kvs, k, qa, .inr ⟨lk, s3 _ _ g1⟩, rfl, s3 _ _ hq, hvs.symm⟩
          · rw [SeqAt.eqv_refl _ sms.1]
            exact iteF ⟨_, _, rfl, s3 _ _ g1, s3 _ _ g2, s3 _ _ g3, g4.trans (.of s3)⟩
      · rintro σ' H2 ⟨v9, v10, rfl, g1, g2, g3, g4⟩
        exact ⟨g1, q _⟩
end
end Sg

set_option Elab.async false
set_option linter.all false
set_option maxRecDepth 100000
set_option maxHeartbeats 8000000
namespace Sg
open PySem PySem.Spec PyProof.Rows L2
theorem all_mk {l : PySem.W.OpenLaw} {w : World} {K : PySem.W.Frag} {h : Heap} {mg : Str → Option Value} {fa fW fAL fB fMr fIr fFc fIk fIc fIf fIt fFo fAo fEf fEk fT fA fLr fLa fLd fLm fLp fL CN CS aK aF aT0 aT1 aT2 aT3 aT4 aT5 aT6 aT7 aT8 aT9 aT10 aT11 : Addr} (X : K.In h) (G : h.Ns mainGlobals mg) (hfa : mg "law" = some (.ref fa))
    {odW anW odAL anAL odB anB odMr anMr odIr anIr odFc anFc odIk anIk odIc anIc odIf anIf odIt anIt odFo anFo odAo anAo odEf anEf odEk anEk odT anT odA anA odLr anLr odLa anLa odLd anLd odLm anLm odLp anLp odL anL dT0 dT1 dT2 dT3 dT4 dT5 dT6 dT7 dT8 dT9 dT10 dT11 : Option Addr} {slW slAL slB slMr slIr slFc slIk slIc slIf slIt slFo slAo slEf slEk slT slA slLr slLa slLd slLm slLp slL slK slT0 slT1 slT2 slT3 slT4 slT5 slT6 slT7 slT8 slT9 slT10 slT11 : Array (Option Value)} {ocW kVW dcW pmW cdW ctW ocAL kVAL dcAL pmAL cdAL ctAL ocB kVB dcB pmB cdB ctB ocMr kVMr dcMr pmMr cdMr ctMr ocIr kVIr dcIr pmIr cdIr ctIr ocFc kVFc dcFc pmFc cdFc ctFc ocIk kVIk dcIk pmIk cdIk ctIk ocIc kVIc dcIc pmIc cdIc ctIc ocIf kVIf dcIf pmIf cdIf ctIf ocIt kVIt dcIt pmIt cdIt ctIt ocFo kVFo dcFo pmFo cdFo ctFo ocAo kVAo dcAo pmAo cdAo ctAo ocEf kVEf dcEf pmEf cdEf ctEf ocEk kVEk dcEk pmEk cdEk ctEk ocT kVT dcT pmT cdT ctT ocA kVA dcA pmA cdA ctA ocLr kVLr dcLr pmLr cdLr ctLr ocLa kVLa dcLa pmLa cdLa ctLa ocLd kVLd dcLd pmLd cdLd ctLd ocLm kVLm dcLm pmLm cdLm ctLm ocLp kVLp dcLp pmLp cdLp ctLp ocL kVL dcL pmL cdL ctL : Value} {tHEAD tHOSTS tNAMESPACES tPLACES uK0 uK1 uK2 uK3 uK4 uK5 uK6 uK7 uK8 uK9 uK10 uK11 w0_0 w1_0 w1_1 w2_0 w3_0 w3_1 w3_2 w4_0 w4_1 w5_0 w6_0 w6_1 w7_0 w8_0 w8_1 w9_0 w9_1 w10_0 w11_0 w11_1 w11_2 : Tok} {nK nF nnT0 nnT1 nnT2 nnT3 nnT4 nnT5 nnT6 nnT7 nnT8 nnT9 nnT10 nnT11 : Nat} {esF : Array DictEntry}
    (aW : PySem.W.nsIn K mainGlobals "is_whole" = some (some (.ref fW)))
    (lW : K.lookup fW = some ⟨ocW, odW, .func (PySem.W.fnOf "is_whole" "is_whole" (defArgs sWhole) (defBody sWhole) (defScope sWhole) .none kVW dcW pmW anW cdW ctW), slW⟩)
    (cW : PySem.W.codeIn K cdW "is_whole" = true)
    (kW : PySem.W.keepIn K (.ref fW) = true)
    (aAL : PySem.W.nsIn K mainGlobals "is_at_least" = some (some (.ref fAL)))
    (lAL : K.lookup fAL = some ⟨ocAL, odAL, .func (PySem.W.fnOf "is_at_least" "is_at_least" (defArgs sAtLeast) (defBody sAtLeast) (defScope sAtLeast) .none kVAL dcAL pmAL anAL cdAL ctAL), slAL⟩)
    (cAL : PySem.W.codeIn K cdAL "is_at_least" = true)
    (kAL : PySem.W.keepIn K (.ref fAL) = true)
    (aB : PySem.W.nsIn K mainGlobals "is_between" = some (some (.ref fB)))
    (lB : K.lookup fB = some ⟨ocB, odB, .func (PySem.W.fnOf "is_between" "is_between" (defArgs sBetween) (defBody sBetween) (defScope sBetween) .none kVB dcB pmB anB cdB ctB), slB⟩)
    (cB : PySem.W.codeIn K cdB "is_between" = true)
    (kB : PySem.W.keepIn K (.ref fB) = true)
    (aMr : PySem.W.nsIn K mainGlobals "make_record" = some (some (.ref fMr)))
    (lMr : K.lookup fMr = some ⟨ocMr, odMr, .func (PySem.W.fnOf "make_record" "make_record" (defArgs sMake) (defBody sMake) (defScope sMake) .none kVMr dcMr pmMr anMr cdMr ctMr), slMr⟩)
    (cMr : PySem.W.codeIn K cdMr "make_record" = true)
    (kMr : PySem.W.keepIn K (.ref fMr) = true)
    (aIr : PySem.W.nsIn K mainGlobals "is_record" = some (some (.ref fIr)))
    (lIr : K.lookup fIr = some ⟨ocIr, odIr, .func (PySem.W.fnOf "is_record" "is_record" (defArgs sIsRec) (defBody sIsRec) (defScope sIsRec) .none kVIr dcIr pmIr anIr cdIr ctIr), slIr⟩)
    (cIr : PySem.W.codeIn K cdIr "is_record" = true)
    (kIr : PySem.W.keepIn K (.ref fIr) = true)
    (aFc : PySem.W.nsIn K mainGlobals "field_count" = some (some (.ref fFc)))
    (lFc : K.lookup fFc = some ⟨ocFc, odFc, .func (PySem.W.fnOf "field_count" "field_count" (defArgs sCount) (defBody sCount) (defScope sCount) .none kVFc dcFc pmFc anFc cdFc ctFc), slFc⟩)
    (cFc : PySem.W.codeIn K cdFc "field_count" = true)
    (kFc : PySem.W.keepIn K (.ref fFc) = true)
    (aIk : PySem.W.nsIn K mainGlobals "_is_kind" = some (some (.ref fIk)))
    (lIk : K.lookup fIk = some ⟨ocIk, odIk, .func (PySem.W.fnOf "_is_kind" "_is_kind" (defArgs sIsKind) (defBody sIsKind) (defScope sIsKind) .none kVIk dcIk pmIk anIk cdIk ctIk), slIk⟩)
    (cIk : PySem.W.codeIn K cdIk "_is_kind" = true)
    (kIk : PySem.W.keepIn K (.ref fIk) = true)
    (aIc : PySem.W.nsIn K mainGlobals "_is_counter" = some (some (.ref fIc)))
    (lIc : K.lookup fIc = some ⟨ocIc, odIc, .func (PySem.W.fnOf "_is_counter" "_is_counter" (defArgs sIsCounter) (defBody sIsCounter) (defScope sIsCounter) .none kVIc dcIc pmIc anIc cdIc ctIc), slIc⟩)
    (cIc : PySem.W.codeIn K cdIc "_is_counter" = true)
    (kIc : PySem.W.keepIn K (.ref fIc) = true)
    (aIf : PySem.W.nsIn K mainGlobals "_is_field" = some (some (.ref fIf)))
    (lIf : K.lookup fIf = some ⟨ocIf, odIf, .func (PySem.W.fnOf "_is_field" "_is_field" (defArgs sIsField) (defBody sIsField) (defScope sIsField) .none kVIf dcIf pmIf anIf cdIf ctIf), slIf⟩)
    (cIf : PySem.W.codeIn K cdIf "_is_field" = true)
    (kIf : PySem.W.keepIn K (.ref fIf) = true)
    (aIt : PySem.W.nsIn K mainGlobals "_is_told" = some (some (.ref fIt)))
    (lIt : K.lookup fIt = some ⟨ocIt, odIt, .func (PySem.W.fnOf "_is_told" "_is_told" (defArgs sIsTold) (defBody sIsTold) (defScope sIsTold) .none kVIt dcIt pmIt anIt cdIt ctIt), slIt⟩)
    (cIt : PySem.W.codeIn K cdIt "_is_told" = true)
    (kIt : PySem.W.keepIn K (.ref fIt) = true)
    (aFo : PySem.W.nsIn K mainGlobals "fields_of" = some (some (.ref fFo)))
    (lFo : K.lookup fFo = some ⟨ocFo, odFo, .func (PySem.W.fnOf "fields_of" "fields_of" (defArgs sFieldsOf) (defBody sFieldsOf) (defScope sFieldsOf) .none kVFo dcFo pmFo anFo cdFo ctFo), slFo⟩)
    (cFo : PySem.W.codeIn K cdFo "fields_of" = true)
    (kFo : PySem.W.keepIn K (.ref fFo) = true)
    (aAo : PySem.W.nsIn K mainGlobals "answer_of" = some (some (.ref fAo)))
    (lAo : K.lookup fAo = some ⟨ocAo, odAo, .func (PySem.W.fnOf "answer_of" "answer_of" (defArgs sAnswerOf) (defBody sAnswerOf) (defScope sAnswerOf) .none kVAo dcAo pmAo anAo cdAo ctAo), slAo⟩)
    (cAo : PySem.W.codeIn K cdAo "answer_of" = true)
    (kAo : PySem.W.keepIn K (.ref fAo) = true)
    (aEf : PySem.W.nsIn K mainGlobals "effects" = some (some (.ref fEf)))
    (lEf : K.lookup fEf = some ⟨ocEf, odEf, .func (PySem.W.fnOf "effects" "effects" (defArgs sEffects) (defBody sEffects) (defScope sEffects) .none kVEf dcEf pmEf anEf cdEf ctEf), slEf⟩)
    (cEf : PySem.W.codeIn K cdEf "effects" = true)
    (kEf : PySem.W.keepIn K (.ref fEf) = true)
    (aEk : PySem.W.nsIn K mainGlobals "_effects_of_kind" = some (some (.ref fEk)))
    (lEk : K.lookup fEk = some ⟨ocEk, odEk, .func (PySem.W.fnOf "_effects_of_kind" "_effects_of_kind" (defArgs sEffKind) (defBody sEffKind) (defScope sEffKind) .none kVEk dcEk pmEk anEk cdEk ctEk), slEk⟩)
    (cEk : PySem.W.codeIn K cdEk "_effects_of_kind" = true)
    (kEk : PySem.W.keepIn K (.ref fEk) = true)
    (aT : PySem.W.nsIn K mainGlobals "_law_tape" = some (some (.ref fT)))
    (lT : K.lookup fT = some ⟨ocT, odT, .func (PySem.W.fnOf "_law_tape" "_law_tape" (defArgs sTape) (defBody sTape) (defScope sTape) .none kVT dcT pmT anT cdT ctT), slT⟩)
    (cT : PySem.W.codeIn K cdT "_law_tape" = true)
    (kT : PySem.W.keepIn K (.ref fT) = true)
    (aA : PySem.W.nsIn K mainGlobals "_law_at" = some (some (.ref fA)))
    (lA : K.lookup fA = some ⟨ocA, odA, .func (PySem.W.fnOf "_law_at" "_law_at" (defArgs sAt) (defBody sAt) (defScope sAt) .none kVA dcA pmA anA cdA ctA), slA⟩)
    (cA : PySem.W.codeIn K cdA "_law_at" = true)
    (kA : PySem.W.keepIn K (.ref fA) = true)
    (aLr : PySem.W.nsIn K mainGlobals "_law_record" = some (some (.ref fLr)))
    (lLr : K.lookup fLr = some ⟨ocLr, odLr, .func (PySem.W.fnOf "_law_record" "_law_record" (defArgs sLRecord) (defBody sLRecord) (defScope sLRecord) .none kVLr dcLr pmLr anLr cdLr ctLr), slLr⟩)
    (cLr : PySem.W.codeIn K cdLr "_law_record" = true)
    (kLr : PySem.W.keepIn K (.ref fLr) = true)
    (aLa : PySem.W.nsIn K mainGlobals "_law_answer" = some (some (.ref fLa)))
    (lLa : K.lookup fLa = some ⟨ocLa, odLa, .func (PySem.W.fnOf "_law_answer" "_law_answer" (defArgs sLAnswer) (defBody sLAnswer) (defScope sLAnswer) .none kVLa dcLa pmLa anLa cdLa ctLa), slLa⟩)
    (cLa : PySem.W.codeIn K cdLa "_law_answer" = true)
    (kLa : PySem.W.keepIn K (.ref fLa) = true)
    (aLd : PySem.W.nsIn K mainGlobals "_law_due" = some (some (.ref fLd)))
    (lLd : K.lookup fLd = some ⟨ocLd, odLd, .func (PySem.W.fnOf "_law_due" "_law_due" (defArgs sLDue) (defBody sLDue) (defScope sLDue) .none kVLd dcLd pmLd anLd cdLd ctLd), slLd⟩)
    (cLd : PySem.W.codeIn K cdLd "_law_due" = true)
    (kLd : PySem.W.keepIn K (.ref fLd) = true)
    (aLm : PySem.W.nsIn K mainGlobals "_law_remove" = some (some (.ref fLm)))
    (lLm : K.lookup fLm = some ⟨ocLm, odLm, .func (PySem.W.fnOf "_law_remove" "_law_remove" (defArgs sLRemove) (defBody sLRemove) (defScope sLRemove) .none kVLm dcLm pmLm anLm cdLm ctLm), slLm⟩)
    (cLm : PySem.W.codeIn K cdLm "_law_remove" = true)
    (kLm : PySem.W.keepIn K (.ref fLm) = true)
    (aLp : PySem.W.nsIn K mainGlobals "_law_apply" = some (some (.ref fLp)))
    (lLp : K.lookup fLp = some ⟨ocLp, odLp, .func (PySem.W.fnOf "_law_apply" "_law_apply" (defArgs sLApply) (defBody sLApply) (defScope sLApply) .none kVLp dcLp pmLp anLp cdLp ctLp), slLp⟩)
    (cLp : PySem.W.codeIn K cdLp "_law_apply" = true)
    (kLp : PySem.W.keepIn K (.ref fLp) = true)
    (aL : PySem.W.nsIn K mainGlobals "law" = some (some (.ref fL)))
    (lL : K.lookup fL = some ⟨ocL, odL, .func (PySem.W.fnOf "law" "law" (defArgs sLaw) (defBody sLaw) (defScope sLaw) .none kVL dcL pmL anL cdL ctL), slL⟩)
    (cL : PySem.W.codeIn K cdL "law" = true)
    (kL : PySem.W.keepIn K (.ref fL) = true)
    (aN_ : PySem.W.nsIn K mainGlobals "NotValid" = some (some (.ref CN)))
    (aS_ : PySem.W.nsIn K mainGlobals "SpindleError" = some (some (.ref CS)))
    (xNe : PySem.W.excIn K CN [.type "ValueError", .type "Exception", .type "BaseException", .type "object"] "ValueError.__new__" = true)
    (kNe : PySem.W.keepIn K (.ref CN) = true)
    (bNe : PySem.W.subIn K (.ref CN) (.type "BaseException") = some true)
    (tNe : PySem.W.typeIn K (.ref CN) = some (.type "type"))
    (sNe : PySem.W.subIn K (.ref CN) (.ref CS) = some true)
    (iSe : PySem.W.isClsIn K CS = true)
    (bSe : PySem.W.subIn K (.ref CS) (.type "BaseException") = some true)
    (tSe : PySem.W.typeIn K (.ref CS) = some (.type "type"))
    (gHEAD : PySem.W.nsIn K mainGlobals "HEAD" = some (some (.int 5 tHEAD)))
    (gHOSTS : PySem.W.nsIn K mainGlobals "HOSTS" = some (some (.int 4 tHOSTS)))
    (gNAMESPACES : PySem.W.nsIn K mainGlobals "NAMESPACES" = some (some (.int 8 tNAMESPACES)))
    (gPLACES : PySem.W.nsIn K mainGlobals "PLACES" = some (some (.int 64 tPLACES)))
    (gKINDS : PySem.W.nsIn K mainGlobals "KINDS" = some (some (.ref aK)))
    (gFIELDS : PySem.W.nsIn K mainGlobals "FIELDS" = some (some (.ref aF)))
    (lKINDS : K.lookup aK = some ⟨.type "tuple", none, .seq #[.str "mark" uK0, .str "make" uK1, .str "remove" uK2, .str "write" uK3, .str "trim" uK4, .str "snap" uK5, .str "drop" uK6, .str "register" uK7, .str "leave" uK8, .str "reserve" uK9, .str "release" uK10, .str "preempt" uK11] nK, slK⟩)
    (lFIELDS : K.lookup aF = some ⟨.type "dict", none, .dict esF nF, #[]⟩)
    (kFIELDS : PySem.W.KeysLit w.params esF.toList)
    (nT0 : PySem.W.nsIn K aF "mark" = some (some (.ref aT0)))
    (lT0 : K.lookup aT0 = some ⟨.type "tuple", dT0, .seq #[.str "told" w0_0] nnT0, slT0⟩)
    (nT1 : PySem.W.nsIn K aF "make" = some (some (.ref aT1)))
    (lT1 : K.lookup aT1 = some ⟨.type "tuple", dT1, .seq #[.str "namespace" w1_0, .str "size" w1_1] nnT1, slT1⟩)
    (nT2 : PySem.W.nsIn K aF "remove" = some (some (.ref aT2)))
    (lT2 : K.lookup aT2 = some ⟨.type "tuple", dT2, .seq #[.str "namespace" w2_0] nnT2, slT2⟩)
    (nT3 : PySem.W.nsIn K aF "write" = some (some (.ref aT3)))
    (lT3 : K.lookup aT3 = some ⟨.type "tuple", dT3, .seq #[.str "namespace" w3_0, .str "place" w3_1, .str "value" w3_2] nnT3, slT3⟩)
    (nT4 : PySem.W.nsIn K aF "trim" = some (some (.ref aT4)))
    (lT4 : K.lookup aT4 = some ⟨.type "tuple", dT4, .seq #[.str "namespace" w4_0, .str "place" w4_1] nnT4, slT4⟩)
    (nT5 : PySem.W.nsIn K aF "snap" = some (some (.ref aT5)))
    (lT5 : K.lookup aT5 = some ⟨.type "tuple", dT5, .seq #[.str "namespace" w5_0] nnT5, slT5⟩)
    (nT6 : PySem.W.nsIn K aF "drop" = some (some (.ref aT6)))
    (lT6 : K.lookup aT6 = some ⟨.type "tuple", dT6, .seq #[.str "namespace" w6_0, .str "snapshot" w6_1] nnT6, slT6⟩)
    (nT7 : PySem.W.nsIn K aF "register" = some (some (.ref aT7)))
    (lT7 : K.lookup aT7 = some ⟨.type "tuple", dT7, .seq #[.str "namespace" w7_0] nnT7, slT7⟩)
    (nT8 : PySem.W.nsIn K aF "leave" = some (some (.ref aT8)))
    (lT8 : K.lookup aT8 = some ⟨.type "tuple", dT8, .seq #[.str "namespace" w8_0, .str "held" w8_1] nnT8, slT8⟩)
    (nT9 : PySem.W.nsIn K aF "reserve" = some (some (.ref aT9)))
    (lT9 : K.lookup aT9 = some ⟨.type "tuple", dT9, .seq #[.str "namespace" w9_0, .str "way" w9_1] nnT9, slT9⟩)
    (nT10 : PySem.W.nsIn K aF "release" = some (some (.ref aT10)))
    (lT10 : K.lookup aT10 = some ⟨.type "tuple", dT10, .seq #[.str "namespace" w10_0] nnT10, slT10⟩)
    (nT11 : PySem.W.nsIn K aF "preempt" = some (some (.ref aT11)))
    (lT11 : K.lookup aT11 = some ⟨.type "tuple", dT11, .seq #[.str "namespace" w11_0, .str "victim" w11_1, .str "way or none" w11_2] nnT11, slT11⟩)
    (z_isinstance : PySem.W.nsIn K mainGlobals "isinstance" = some none)
    (z_int : PySem.W.nsIn K mainGlobals "int" = some none)
    (z_bool : PySem.W.nsIn K mainGlobals "bool" = some none)
    (z_str : PySem.W.nsIn K mainGlobals "str" = some none)
    (z_tuple : PySem.W.nsIn K mainGlobals "tuple" = some none)
    (z_list : PySem.W.nsIn K mainGlobals "list" = some none)
    (z_len : PySem.W.nsIn K mainGlobals "len" = some none)
    (z_all : PySem.W.nsIn K mainGlobals "all" = some none)
    (z_zip : PySem.W.nsIn K mainGlobals "zip" = some none)
    (z_range : PySem.W.nsIn K mainGlobals "range" = some none)
    (z_abs : PySem.W.nsIn K mainGlobals "abs" = some none)
    (z_max : PySem.W.nsIn K mainGlobals "max" = some none)
    (z_min : PySem.W.nsIn K mainGlobals "min" = some none)
    (z_sorted : PySem.W.nsIn K mainGlobals "sorted" = some none)
    : ∃ fd : FuncData, (∀ (s : Shared) (v : Value), BindsTo s fd ⟨[v], []⟩ [("script", v)]) ∧ ∀ base : Heap, K.In base → base.Ns mainGlobals mg → FnOk l.prog w K mg base CX0 8 fa fd ["script"] (spLaw K) := by
  have e := hfa.symm.trans (PySem.W.mg_of X G aL)
  cases e
  have NVx : NV K mg CN CS := ⟨PySem.W.mg_of X G aN_, xNe, kNe, bNe, tNe, PySem.W.mg_of X G aS_, exm_sub bSe iSe tSe sNe⟩
  have RXx : RX K w mg aK aF := by
    refine ⟨PySem.W.mg_of X G gKINDS, fun H => .inr ⟨_, _, _, lKINDS, rfl, rfl, (show (12 : Nat) ≤ sizeLine by decide), (.cons ⟨_, rfl⟩ (.cons ⟨_, rfl⟩ (.cons ⟨_, rfl⟩ (.cons ⟨_, rfl⟩ (.cons ⟨_, rfl⟩ (.cons ⟨_, rfl⟩ (.cons ⟨_, rfl⟩ (.cons ⟨_, rfl⟩ (.cons ⟨_, rfl⟩ (.cons ⟨_, rfl⟩ (.cons ⟨_, rfl⟩ (.cons ⟨_, rfl⟩ .nil))))))))))))⟩, ⟨_, lKINDS, rfl, rfl⟩, PySem.W.mg_of X G gFIELDS, fun p hp => ?_, ⟨_, PySem.W.mg_of X G gHEAD⟩, ⟨_, PySem.W.mg_of X G gHOSTS⟩, ⟨_, PySem.W.mg_of X G gNAMESPACES⟩, ⟨_, PySem.W.mg_of X G gPLACES⟩⟩
    simp only [fieldT, List.mem_cons, List.not_mem_nil, or_false] at hp
    rcases hp with rfl | rfl | rfl | rfl | rfl | rfl | rfl | rfl | rfl | rfl | rfl | rfl
    · exact ⟨aT0, ⟨_, _, _, lFIELDS, kFIELDS, nT0, rfl⟩, fun H => .inr ⟨_, _, _, lT0, rfl, rfl, (show (1 : Nat) ≤ sizeLine by decide), (.cons ⟨_, rfl⟩ .nil)⟩⟩
    · exact ⟨aT1, ⟨_, _, _, lFIELDS, kFIELDS, nT1, rfl⟩, fun H => .inr ⟨_, _, _, lT1, rfl, rfl, (show (2 : Nat) ≤ sizeLine by decide), (.cons ⟨_, rfl⟩ (.cons ⟨_, rfl⟩ .nil))⟩⟩
    · exact ⟨aT2, ⟨_, _, _, lFIELDS, kFIELDS, nT2, rfl⟩, fun H => .inr ⟨_, _, _, lT2, rfl, rfl, (show (1 : Nat) ≤ sizeLine by decide), (.cons ⟨_, rfl⟩ .nil)⟩⟩
    · exact ⟨aT3, ⟨_, _, _, lFIELDS, kFIELDS, nT3, rfl⟩, fun H => .inr ⟨_, _, _, lT3, rfl, rfl, (show (3 : Nat) ≤ sizeLine by decide), (.cons ⟨_, rfl⟩ (.cons ⟨_, rfl⟩ (.cons ⟨_, rfl⟩ .nil)))⟩⟩
    · exact ⟨aT4, ⟨_, _, _, lFIELDS, kFIELDS, nT4, rfl⟩, fun H => .inr ⟨_, _, _, lT4, rfl, rfl, (show (2 : Nat) ≤ sizeLine by decide), (.cons ⟨_, rfl⟩ (.cons ⟨_, rfl⟩ .nil))⟩⟩
    · exact ⟨aT5, ⟨_, _, _, lFIELDS, kFIELDS, nT5, rfl⟩, fun H => .inr ⟨_, _, _, lT5, rfl, rfl, (show (1 : Nat) ≤ sizeLine by decide), (.cons ⟨_, rfl⟩ .nil)⟩⟩
    · exact ⟨aT6, ⟨_, _, _, lFIELDS, kFIELDS, nT6, rfl⟩, fun H => .inr ⟨_, _, _, lT6, rfl, rfl, (show (2 : Nat) ≤ sizeLine by decide), (.cons ⟨_, rfl⟩ (.cons ⟨_, rfl⟩ .nil))⟩⟩
    · exact ⟨aT7, ⟨_, _, _, lFIELDS, kFIELDS, nT7, rfl⟩, fun H => .inr ⟨_, _, _, lT7, rfl, rfl, (show (1 : Nat) ≤ sizeLine by decide), (.cons ⟨_, rfl⟩ .nil)⟩⟩
    · exact ⟨aT8, ⟨_, _, _, lFIELDS, kFIELDS, nT8, rfl⟩, fun H => .inr ⟨_, _, _, lT8, rfl, rfl, (show (2 : Nat) ≤ sizeLine by decide), (.cons ⟨_, rfl⟩ (.cons ⟨_, rfl⟩ .nil))⟩⟩
    · exact ⟨aT9, ⟨_, _, _, lFIELDS, kFIELDS, nT9, rfl⟩, fun H => .inr ⟨_, _, _, lT9, rfl, rfl, (show (2 : Nat) ≤ sizeLine by decide), (.cons ⟨_, rfl⟩ (.cons ⟨_, rfl⟩ .nil))⟩⟩
    · exact ⟨aT10, ⟨_, _, _, lFIELDS, kFIELDS, nT10, rfl⟩, fun H => .inr ⟨_, _, _, lT10, rfl, rfl, (show (1 : Nat) ≤ sizeLine by decide), (.cons ⟨_, rfl⟩ .nil)⟩⟩
    · exact ⟨aT11, ⟨_, _, _, lFIELDS, kFIELDS, nT11, rfl⟩, fun H => .inr ⟨_, _, _, lT11, rfl, rfl, (show (3 : Nat) ≤ sizeLine by decide), (.cons ⟨_, rfl⟩ (.cons ⟨_, rfl⟩ (.cons ⟨_, rfl⟩ .nil)))⟩⟩
  have Bx : Blt mg := ⟨PySem.W.mg_none_of X G z_range, PySem.W.mg_none_of X G z_len, PySem.W.mg_none_of X G z_abs, PySem.W.mg_none_of X G z_int⟩
  have BLx : BL mg := ⟨PySem.W.mg_none_of X G z_len, PySem.W.mg_none_of X G z_range, PySem.W.mg_none_of X G z_min, PySem.W.mg_none_of X G z_isinstance, PySem.W.mg_none_of X G z_list, PySem.W.mg_none_of X G z_tuple⟩
  have FW := fun_mk (st := sWhole) lW cW kW
  have FAL := fun_mk (st := sAtLeast) lAL cAL kAL
  have FB := fun_mk (st := sBetween) lB cB kB
  have FMr := fun_mk (st := sMake) lMr cMr kMr
  have FIr := fun_mk (st := sIsRec) lIr cIr kIr
  have FFc := fun_mk (st := sCount) lFc cFc kFc
  have FIk := fun_mk (st := sIsKind) lIk cIk kIk
  have FIc := fun_mk (st := sIsCounter) lIc cIc kIc
  have FIf := fun_mk (st := sIsField) lIf cIf kIf
  have FIt := fun_mk (st := sIsTold) lIt cIt kIt
  have FFo := fun_mk (st := sFieldsOf) lFo cFo kFo
  have FAo := fun_mk (st := sAnswerOf) lAo cAo kAo
  have FEf := fun_mk (st := sEffects) lEf cEf kEf
  have FEk := fun_mk (st := sEffKind) lEk cEk kEk
  have FT := fun_mk (st := sTape) lT cT kT
  have FA := fun_mk (st := sAt) lA cA kA
  have FLr := fun_mk (st := sLRecord) lLr cLr kLr
  have FLa := fun_mk (st := sLAnswer) lLa cLa kLa
  have FLd := fun_mk (st := sLDue) lLd cLd kLd
  have FLm := fun_mk (st := sLRemove) lLm cLm kLm
  have FLp := fun_mk (st := sLApply) lLp cLp kLp
  have FL := fun_mk (st := sLaw) lL cL kL
  have bW := FW.binds (ps := ["value"]) fun _ _ _ _ _ _ us hl => match us, hl with | [_], _ => rfl
  have bAL := FAL.binds (ps := ["value", "low"]) fun _ _ _ _ _ _ us hl => match us, hl with | [_, _], _ => rfl
  have bB := FB.binds (ps := ["value", "low", "high"]) fun _ _ _ _ _ _ us hl => match us, hl with | [_, _, _], _ => rfl
  have bMr := FMr.binds (ps := ["order", "kind", "host", "session", "counter", "fields"]) fun _ _ _ _ _ _ us hl => match us, hl with | [_, _, _, _, _, _], _ => rfl
  have bIr := FIr.binds (ps := ["value"]) fun _ _ _ _ _ _ us hl => match us, hl with | [_], _ => rfl
  have bFc := FFc.binds (ps := ["kind"]) fun _ _ _ _ _ _ us hl => match us, hl with | [_], _ => rfl
  have bIk := FIk.binds (ps := ["value"]) fun _ _ _ _ _ _ us hl => match us, hl with | [_], _ => rfl
  have bIc := FIc.binds (ps := ["value", "kind"]) fun _ _ _ _ _ _ us hl => match us, hl with | [_, _], _ => rfl
  have bIf := FIf.binds (ps := ["name", "value", "order"]) fun _ _ _ _ _ _ us hl => match us, hl with | [_, _, _], _ => rfl
  have bIt := FIt.binds (ps := ["value"]) fun _ _ _ _ _ _ us hl => match us, hl with | [_], _ => rfl
  have bFo := FFo.binds (ps := ["record"]) fun _ _ _ _ _ _ us hl => match us, hl with | [_], _ => rfl
  have bAo := FAo.binds (ps := ["record"]) fun _ _ _ _ _ _ us hl => match us, hl with | [_], _ => rfl
  have bEf := FEf.binds (ps := ["record"]) fun _ _ _ _ _ _ us hl => match us, hl with | [_], _ => rfl
  have bEk := FEk.binds (ps := ["order", "kind", "host", "fields"]) fun _ _ _ _ _ _ us hl => match us, hl with | [_, _, _, _], _ => rfl
  have bT := FT.binds (ps := ["script"]) fun _ _ _ _ _ _ us hl => match us, hl with | [_], _ => rfl
  have bA := FA.binds (ps := ["tape", "k"]) fun _ _ _ _ _ _ us hl => match us, hl with | [_, _], _ => rfl
  have bLr := FLr.binds (ps := ["order", "number", "pick", "other"]) fun _ _ _ _ _ _ us hl => match us, hl with | [_, _, _, _], _ => rfl
  have bLa := FLa.binds (ps := ["record"]) fun _ _ _ _ _ _ us hl => match us, hl with | [_], _ => rfl
  have bLd := FLd.binds (ps := ["record"]) fun _ _ _ _ _ _ us hl => match us, hl with | [_], _ => rfl
  have bLm := FLm.binds (ps := ["state", "one"]) fun _ _ _ _ _ _ us hl => match us, hl with | [_, _], _ => rfl
  have bLp := FLp.binds (ps := ["state", "record"]) fun _ _ _ _ _ _ us hl => match us, hl with | [_, _], _ => rfl
  refine ⟨PySem.W.fnOf "law" "law" (defArgs sLaw) (defBody sLaw) (defScope sLaw) .none kVL dcL pmL anL cdL ctL, fun s v => .of_eq rfl, fun base _ _ => ?_⟩
  have Dx : Bds mg fW := ⟨PySem.W.mg_none_of X G z_isinstance, PySem.W.mg_none_of X G z_int, PySem.W.mg_none_of X G z_bool, PySem.W.mg_none_of X G z_str, PySem.W.mg_none_of X G z_tuple, PySem.W.mg_none_of X G z_list, PySem.W.mg_of X G aW⟩
  have dW := Def.mk (ok_whole (P := l.prog) (wrl := w) (base := base) FW Dx) bW kW (PySem.W.mg_of X G aW)
  have dAL := Def.mk (ok_atLeast (P := l.prog) (wrl := w) (base := base) FAL Dx FW bW) bAL kAL (PySem.W.mg_of X G aAL)
  have dB := Def.mk (ok_between (P := l.prog) (wrl := w) (base := base) FB Dx FW bW) bB kB (PySem.W.mg_of X G aB)
  have dIt := Def.mk (ok_isTold FIt Dx (PySem.W.mg_none_of X G z_len) dAL) bIt kIt (PySem.W.mg_of X G aIt)
  have dIk := Def.mk (ok_isKind (P := l.prog) (base := base) FIk Dx RXx) bIk kIk (PySem.W.mg_of X G aIk)
  have dIc := Def.mk (ok_isCounter FIc dAL dB) bIc kIc (PySem.W.mg_of X G aIc)
  have dIf := Def.mk (ok_isField FIf Dx RXx dW dB dIt) bIf kIf (PySem.W.mg_of X G aIf)
  have dFc := Def.mk (ok_count FFc NVx RXx (PySem.W.mg_none_of X G z_len) dIk) bFc kFc (PySem.W.mg_of X G aFc)
  have dIr := Def.mk (ok_isRec FIr Dx RXx (PySem.W.mg_none_of X G z_len) (PySem.W.mg_none_of X G z_all) (PySem.W.mg_none_of X G z_zip) dAL dB dIk dIc dIf dFc) bIr kIr (PySem.W.mg_of X G aIr)
  have dMr := Def.mk (ok_make FMr Dx NVx dIr) bMr kMr (PySem.W.mg_of X G aMr)
  have dFo := Def.mk (ok_fieldsOf (P := l.prog) (base := base) FFo RXx) bFo kFo (PySem.W.mg_of X G aFo)
  have dAo := Def.mk (ok_answerOf (P := l.prog) (wrl := w) (mg := mg) (base := base) FAo) bAo kAo (PySem.W.mg_of X G aAo)
  have dEk := Def.mk (ok_effKind (P := l.prog) (wrl := w) (mg := mg) (base := base) FEk) bEk kEk (PySem.W.mg_of X G aEk)
  have dEf := Def.mk (ok_effects FEf RXx dAo dEk dFo) bEf kEf (PySem.W.mg_of X G aEf)
  have dT := Def.mk (ok_tape (P := l.prog) (w := w) (base := base) FT Bx) bT kT (PySem.W.mg_of X G aT)
  have dA := Def.mk (ok_at (P := l.prog) (w := w) (base := base) FA Bx) bA kA (PySem.W.mg_of X G aA)
  have dLr := Def.mk (ok_lrecord FLr (PySem.W.mg_none_of X G z_int) (PySem.W.mg_none_of X G z_max) RXx dMr) bLr kLr (PySem.W.mg_of X G aLr)
  have dLa := Def.mk (ok_lanswer (P := l.prog) (wrl := w) (mg := mg) (base := base) FLa) bLa kLa (PySem.W.mg_of X G aLa)
  have dLd := Def.mk (ok_ldue FLd (PySem.W.mg_none_of X G z_int) dLa) bLd kLd (PySem.W.mg_of X G aLd)
  have dLm := Def.mk (ok_lremove (P := l.prog) (wrl := w) (base := base) FLm (PySem.W.mg_none_of X G z_sorted)) bLm kLm (PySem.W.mg_of X G aLm)
  have dLp := Def.mk (ok_lapply FLp (PySem.W.mg_none_of X G z_int) dLa dLm) bLp kLp (PySem.W.mg_of X G aLp)
  exact ok_law FL BLx dT dA dLr dEf dLd dLp
/-- the law row's walk: at most 63 items -/
theorem walk_law {l : PySem.W.OpenLaw} {q : Program} {loose : List Str} {XP : (Str → Option Value) → Heap → Prop} {YP : World → Heap → Prop} {d : DefRec} {K : Params → PySem.W.Frag} (hn : l.most = some 63) (hdf : d.params.defaults = [])
    (hY : ∀ (w : World) (h : Heap), YP w h → (K w.params).In h)
    (F : ∀ (w : World) (mg : Str → Option Value) (fa : Addr) (h : Heap), (K w.params).In h → h.Ns mainGlobals mg → mg d.name = some (.ref fa) →
      ∃ fd : FuncData, (∀ (s : Shared) (u : Value), BindsTo s fd ⟨[u], []⟩ [("script", u)]) ∧ ∀ base : Heap, (K w.params).In base → base.Ns mainGlobals mg → FnOk l.prog w (K w.params) mg base CX0 8 fa fd ["script"] (spLaw (K w.params))) :
    PySem.W.WalkO q loose XP YP l.row.toRowW d [] (fun f vs => PySem.call f vs) :=
  L2.walk_of (n := 63) (k := 8) (x := "script") (CX := fun _ => CX0) (sp := fun w => spLaw (K w.params)) hn (by decide) hdf ⟨rfl, by decide, by decide⟩ hY F (fun _ _ a ns hl _ hS => ⟨a, ns, rfl, hS, hl, fun _ => rfl⟩) fun _ _ _ _ _ z => z
end Sg

set_option Elab.async false
set_option linter.all false
set_option maxRecDepth 100000
set_option maxHeartbeats 8000000
open PySem PySem.W PyProof.Rows
set_option maxRecDepth 100000 in
set_option maxHeartbeats 0 in
theorem PySem.Challenge.cw_spindlegate_k05_effects_holds : PySem.Challenge.rw_spindlegate_k05_effects.Holds := by
  w_on; o_law; k_head; (case hw => w_witness2)
  k_fill
  refine Sg.walk_law (l := PySem.Challenge.rw_spindlegate_k05_effects) rfl rfl (fun w h Y => PySem.W.kIn_of Y) ?F
  case F =>
    intro w mg fa h KX G hmg
    refine' Sg.all_mk KX G hmg ?aW ?lW ?cW ?kW ?aAL ?lAL ?cAL ?kAL ?aB ?lB ?cB ?kB ?aMr ?lMr ?cMr ?kMr ?aIr ?lIr ?cIr ?kIr ?aFc ?lFc ?cFc ?kFc ?aIk ?lIk ?cIk ?kIk ?aIc ?lIc ?cIc ?kIc ?aIf ?lIf ?cIf ?kIf ?aIt ?lIt ?cIt ?kIt ?aFo ?lFo ?cFo ?kFo ?aAo ?lAo ?cAo ?kAo ?aEf ?lEf ?cEf ?kEf ?aEk ?lEk ?cEk ?kEk ?aT ?lT ?cT ?kT ?aA ?lA ?cA ?kA ?aLr ?lLr ?cLr ?kLr ?aLa ?lLa ?cLa ?kLa ?aLd ?lLd ?cLd ?kLd ?aLm ?lLm ?cLm ?kLm ?aLp ?lLp ?cLp ?kLp ?aL ?lL ?cL ?kL ?aN_ ?aS_ ?xNe ?kNe ?bNe ?tNe ?sNe ?iSe ?bSe ?tSe ?gHEAD ?gHOSTS ?gNAMESPACES ?gPLACES ?gKINDS ?gFIELDS ?lKINDS ?lFIELDS ?kFIELDS ?nT0 ?lT0 ?nT1 ?lT1 ?nT2 ?lT2 ?nT3 ?lT3 ?nT4 ?lT4 ?nT5 ?lT5 ?nT6 ?lT6 ?nT7 ?lT7 ?nT8 ?lT8 ?nT9 ?lT9 ?nT10 ?lT10 ?nT11 ?lT11 ?z_isinstance ?z_int ?z_bool ?z_str ?z_tuple ?z_list ?z_len ?z_all ?z_zip ?z_range ?z_abs ?z_max ?z_min ?z_sorted
    (case aW => k_is)
    (case lW => k_is)
    (case cW => k_is)
    (case kW => k_is)
    (case aAL => k_is)
    (case lAL => k_is)
    (case cAL => k_is)
    (case kAL => k_is)
    (case aB => k_is)
    (case lB => k_is)
    (case cB => k_is)
    (case kB => k_is)
    (case aMr => k_is)
    (case lMr => k_is)
    (case cMr => k_is)
    (case kMr => k_is)
    (case aIr => k_is)
    (case lIr => k_is)
    (case cIr => k_is)
    (case kIr => k_is)
    (case aFc => k_is)
    (case lFc => k_is)
    (case cFc => k_is)
    (case kFc => k_is)
    (case aIk => k_is)
    (case lIk => k_is)
    (case cIk => k_is)
    (case kIk => k_is)
    (case aIc => k_is)
    (case lIc => k_is)
    (case cIc => k_is)
    (case kIc => k_is)
    (case aIf => k_is)
    (case lIf => k_is)
    (case cIf => k_is)
    (case kIf => k_is)
    (case aIt => k_is)
    (case lIt => k_is)
    (case cIt => k_is)
    (case kIt => k_is)
    (case aFo => k_is)
    (case lFo => k_is)
    (case cFo => k_is)
    (case kFo => k_is)
    (case aAo => k_is)
    (case lAo => k_is)
    (case cAo => k_is)
    (case kAo => k_is)
    (case aEf => k_is)
    (case lEf => k_is)
    (case cEf => k_is)
    (case kEf => k_is)
    (case aEk => k_is)
    (case lEk => k_is)
    (case cEk => k_is)
    (case kEk => k_is)
    (case aT => k_is)
    (case lT => k_is)
    (case cT => k_is)
    (case kT => k_is)
    (case aA => k_is)
    (case lA => k_is)
    (case cA => k_is)
    (case kA => k_is)
    (case aLr => k_is)
    (case lLr => k_is)
    (case cLr => k_is)
    (case kLr => k_is)
    (case aLa => k_is)
    (case lLa => k_is)
    (case cLa => k_is)
    (case kLa => k_is)
    (case aLd => k_is)
    (case lLd => k_is)
    (case cLd => k_is)
    (case kLd => k_is)
    (case aLm => k_is)
    (case lLm => k_is)
    (case cLm => k_is)
    (case kLm => k_is)
    (case aLp => k_is)
    (case lLp => k_is)
    (case cLp => k_is)
    (case kLp => k_is)
    (case aL => k_is)
    (case lL => k_is)
    (case cL => k_is)
    (case kL => k_is)
    (case aN_ => k_is)
    (case aS_ => k_is)
    (case xNe => k_exc)
    (case kNe => k_is)
    (case bNe => k_is)
    (case tNe => k_is)
    (case sNe => first | rfl | k_is)
    (case iSe => k_is)
    (case bSe => k_is)
    (case tSe => k_is)
    (case gHEAD => k_is)
    (case gHOSTS => k_is)
    (case gNAMESPACES => k_is)
    (case gPLACES => k_is)
    (case gKINDS => k_is)
    (case gFIELDS => k_is)
    (case lKINDS => k_is)
    (case lFIELDS => k_is)
    (case kFIELDS => first | k_is | (repeat' (first | exact trivial | refine ⟨⟨_, _, rfl, rfl⟩, ?_⟩)))
    (case nT0 => k_is)
    (case lT0 => k_is)
    (case nT1 => k_is)
    (case lT1 => k_is)
    (case nT2 => k_is)
    (case lT2 => k_is)
    (case nT3 => k_is)
    (case lT3 => k_is)
    (case nT4 => k_is)
    (case lT4 => k_is)
    (case nT5 => k_is)
    (case lT5 => k_is)
    (case nT6 => k_is)
    (case lT6 => k_is)
    (case nT7 => k_is)
    (case lT7 => k_is)
    (case nT8 => k_is)
    (case lT8 => k_is)
    (case nT9 => k_is)
    (case lT9 => k_is)
    (case nT10 => k_is)
    (case lT10 => k_is)
    (case nT11 => k_is)
    (case lT11 => k_is)
    (case z_isinstance => k_is)
    (case z_int => k_is)
    (case z_bool => k_is)
    (case z_str => k_is)
    (case z_tuple => k_is)
    (case z_list => k_is)
    (case z_len => k_is)
    (case z_all => k_is)
    (case z_zip => k_is)
    (case z_range => k_is)
    (case z_abs => k_is)
    (case z_max => k_is)
    (case z_min => k_is)
    (case z_sorted => k_is)

