import PyProof.Rows.All
import Wide.All
import OpenK.AllK
import Wide.FinOn
import HandS.Base
import HandS.Call
import HandS.List
import HandS.Comp
import HandS.Ends
import HandS.Dict
import HandS.Iter
import HandS.Text
import HandS.Words
import HandS.WordsList
import HandS.Steps
import HandS.Evl
import HandS.Exc
import HandS.TryOnly
import HandS.ExcOwn
import HandS.WordsExc
import HandS.IsInst
import HandS.ExcIs
import HandS.Deep
import HandS.More
import HandS.WrittenGet
import KE.KIndexOf
import HandS.Zip
import HandS.Star
import PyProof.RulesMatch
import PyProof.RulesMatchSeq
import PyProof.Rows.MatchSeqLen
import PyProof.Rows.TupIter
import KE.KDictPairs
import PyProof.P3In
import HandS.DictComp
import HandS.SortInts
import HandS.SetKeys
import HandS.Walk
import PyProof.DictUpdate
import PyProof.DictFindH
import HandS.SortRule
import HandS.DictEq
import HandS.DeepEq
import HandS.OwnEq
import PyProof.ReprRoads
import KE.SortData
import PyProof.DictMoreH
import KE.DataFind
import HandS.SetFor
import HandS.Conv
import HandS.AnyAll
import HandS.WordsDict
import PySem.Challenge.RW_spindlegate_k28_state_of_live_records
set_option Elab.async false
set_option linter.all false
set_option maxRecDepth 100000
set_option maxHeartbeats 4000000
/-! General lemmas: readings of expressions, small heaps, lists. -/
namespace Sg
open PySem PySem.Spec PyProof.Rows L2
section
variable {σ : L2.St} {H : Hp} {ta tb te : TE} {i j : Int} {K : PySem.W.Frag} {x y z : V}
theorem v0 {g : Int → Int → V} (ha : Val ta σ H (.int i)) (hb : Val tb σ H (.int j)) : Val (tOp (rI0 g) ta tb) σ H (g i j) := val_op ha hb fun _ q => ⟨i, j, rfl, rfl, q⟩
theorem vc {C : Int → Int → Prop} {g : Int → Int → V} (ha : Val ta σ H (.int i)) (hb : Val tb σ H (.int j)) (hc : C i j) : Val (tOp (rI C g) ta tb) σ H (g i j) := val_op ha hb fun _ q => ⟨i, j, rfl, rfl, hc, q⟩
theorem vEq (ha : Val ta σ H x) (hb : Val tb σ H y) (hs : scal x y = true) : Val (tOp rEq ta tb) σ H (.bl (decide (x = y))) := val_op ha hb fun _ q => ⟨hs, q⟩
theorem vNe (ha : Val ta σ H x) (hb : Val tb σ H y) (hs : scal x y = true) : Val (tOp rNe ta tb) σ H (.bl (!decide (x = y))) := val_op ha hb fun _ q => ⟨hs, q⟩
theorem vIx {p : Addr} {xs : List V} {n : Nat} (ha : Val ta σ H (.ref p)) (hb : Val tb σ H (.int (n : Int))) (hp : SqL K H p xs) (hn : xs[n]? = some z) : Val (tOp (rIxL K) ta tb) σ H z :=
  val_op ha hb fun _ q => ⟨p, xs, _, z, rfl, rfl, hp, atI_nat hn, q⟩
theorem vIs {v w : V} (h : Val te σ H v) (e : v = w) : Val te σ H w := e ▸ h
/-- a built-in's call of one argument -/
theorem vCB1 {r : List V → Hp → VK → Prop} (ha : Val ta σ H x) (hr : ∀ Q : VK, Q z H → r [x] H Q) : Val (tCB r (tCons ta tNil)) σ H z := fun Q q => ha _ (hr Q q)
theorem vCB2 {r : List V → Hp → VK → Prop} (ha : Val ta σ H x) (hb : Val tb σ H y) (hr : ∀ Q : VK, Q z H → r [x, y] H Q) : Val (tCB r (tCons ta (tCons tb tNil))) σ H z := fun Q q => ha _ (hb _ (hr Q q))
theorem aTest {b : Bool} (h : Val te σ H (.bl b)) : Ans (tTest te) σ H b := fun Q q => h _ ⟨b, rfl, q⟩
end
theorem map_get {α β : Type} {f : α → β} {l : List α} {i : Nat} {y : β} (h : (l.map f)[i]? = some y) : ∃ z, l[i]? = some z ∧ y = f z := by
  rw [List.getElem?_map] at h
  cases e : l[i]? with
  | none =>
    rw [e] at h
    cases h
  | some z =>
    rw [e] at h
    exact ⟨z, rfl, (Option.some.inj h).symm⟩
theorem get_map {α β : Type} {f : α → β} {l : List α} {i : Nat} {z : α} (h : l[i]? = some z) : (l.map f)[i]? = some (f z) := by rw [List.getElem?_map, h]; rfl
theorem upd_two {H : Hp} {a : Addr} {o u : HO} : upd (upd H a o) a u = upd H a u := upd_upd
theorem same_new {H : Hp} {p : Addr} {o : HO} (h : H p = Option.none) : Same H (upd H p o) := fun b u e => by
  rw [upd_ne (ne_of_none e h)]
  exact e
end Sg

set_option Elab.async false
set_option linter.all false
set_option maxRecDepth 100000
set_option maxHeartbeats 4000000
namespace Sg
open PySem PySem.Spec PyProof.Rows L2
/-! ### rules of our own -/
section
variable {X : Cx}
/-- C(), an own exception without an __init__ of its own -/
theorem pmk_own0 {C : Addr} {bmB : List Value} {B newId initId : String} {x : Str} {p pos : Pos} (F : ExcBaseFacts B newId initId bmB) (q : PySem.W.excIn X.K C bmB newId = true) (gC : X.mg x = some (.ref C))
    (kC : PySem.W.keepIn X.K (.ref C) = true) (r : Raises X (.ref C)) (hg : Gl X x) (hdb : (x == ("__debug__" : Str)) = false := by decide) :
    PMk X (.Call (.Name x p) [] [] pos) (fun _ H Q => Q (.ref C) none H) := by
  intro pins s σ H Q I h
  refine wpAny_Call_Name_kw (ld_glob I hg gC ?_ hdb)
  refine PySem.W.callWith_K0 I.kIn kC ?_
  obtain ⟨bm, N, nm, qn, bs, hdct, sn, sub, ab, col, dd, k0, k1, k2, k3, k5, mN, hC, hN, hni, T⟩ := exc_obj I.kIn q
  exact wpAny_call_exc_subT F T hC hN hni (fun h' e hm => mk_of I hm r h (I.hok.gone hm.new)) (Nat.zero_le _)
/-- o[i] of a list, by values, a place in bounds from the left -/
def rGetL (K : PySem.W.Frag) : V → V → Hp → VK → Prop := fun o i H Q => ∃ p xs n v, o = .ref p ∧ i = .int ((n : Nat) : Int) ∧ SqL K H p xs ∧ xs[n]? = some v ∧ Q v H
theorem get_list : PGet X (rGetL X.K) := by
  intro pins s σ H o i ov iv Q I ro ri h
  obtain ⟨p, xs, n, v, rfl, rfl, hq, he, q⟩ := h
  cases ro
  obtain ⟨t, rfl⟩ := ri
  obtain ⟨its, r, pl, hz⟩ := I.list hq
  obtain ⟨w, ew, rw'⟩ := r.get he
  have hl := r.length
  have hn := line63
  have hb := (List.getElem?_eq_some_iff.mp he).1
  exact wpAny_getItem_list pl.isList (by omega) (by omega) (by simpa using ew) ⟨v, H, I, rw', q⟩
/-- l.count(y): how many are equal, data of any depth -/
def rCountD (K : PySem.W.Frag) : V → List V → Hp → VK → Prop := fun x xs H Q => ∃ (a : Addr) (y : V) (d : PyData) (ds : List PyData), x = V.ref a ∧ xs = [y] ∧ Dp K H (V.ref a) (.list ds) ∧ Dp K H y d ∧
  SeqAt.shaped (.list ds) = true ∧ SeqAt.shaped d = true ∧ Q (.int (ds.countP (fun z => PyData.eqv z d) : Nat)) H
theorem mt_countD (hu : X.A.units + 65 < cLine) : MtR X "list.count" (rCountD X.K) := by
  intro pins s σ H x xs v us Q I rx rxs h
  obtain ⟨a, y, d, ds, rfl, rfl, hl, hy, sl, sd, q⟩ := h
  cases rx
  cases rxs with
  | cons ry rt =>
    rename_i uy ut
    cases rt
    obtain ⟨bs, r1⟩ := Dp.reads I d y uy hy ry
    have hxs : PyData.canLayAll0 ds = true := SeqAt.canLay_of_shaped sl
    have hroom : X.A.units + 1 + min (PyData.depthAll ds) d.depth < cLine := room_in_shaped sd hu
    cases hl with
    | lst hs ha =>
      obtain ⟨its, rv, ⟨⟨cls, dd, data, sls⟩, n, ho, hc, hdn, hdt⟩, hlen⟩ := I.list hs
      simp only at hc hdt
      subst hc hdt
      obtain ⟨as, h4⟩ := Dp.readsAll I ds _ its ha rv
      have hmap : its.map (SeqAt.readOf s.heap) = ds := SeqAt.readsAll_map ds its as hxs h4
      refine call_meets PySem.F.slot_list_count ⟨_, ho, rfl⟩ PySem.F.entry_list_count (PySem.F.args_list_count_2 _ _)
        (SeqAt.list_countAt a its.toArray n dd sls uy (fun u => PyData.eqv (SeqAt.readOf s.heap u) d)) ⟨ho, SeqAt.items_eqAt (vs := its.toArray) (show ReadsAll s.heap its.toArray.toList ds as from h4) r1 hxs (SeqAt.canLay_of_shaped sd) hroom, ?_⟩
      have ec : its.toArray.toList.countP (fun u => PyData.eqv (SeqAt.readOf s.heap u) d) = ds.countP (fun z => PyData.eqv z d) := by
        rw [← hmap, List.countP_map]
        rfl
      refine ⟨.int (ds.countP (fun z => PyData.eqv z d) : Nat), H, I.tok _, ⟨s.toks, ?_⟩, q⟩
      show Value.int ((its.toArray.toList.countP (fun u => PyData.eqv (SeqAt.readOf s.heap u) d) : Nat) : Int) s.toks = _
      rw [ec]
/-- isinstance(e, c), e the exception that the suite holds, whatever its class is -/
def rIsX (K : PySem.W.Frag) (a : Addr) (cls : Value) (d : Option Addr) : List V → Hp → VK → Prop := fun xs H Q => ∃ (D : Addr) (c : V) (cv : Value) (b : Bool), cls = .ref D ∧ d = none ∧ ExcC K D ∧ xs = [.ref a, c] ∧ (∀ u, RelV c u → u = cv) ∧ PySem.W.kitOne K (.ref D) cv = some b ∧ Q (.bl b) H
theorem call_isX {a : Addr} {oe : Obj} {cls : Value} {d : Option Addr} {pn : List (Addr × Obj)} (hz : Zc cls d oe) (hf : ∃ vs, oe.data = .fields vs) : CallR (X.suite a ((a, oe) :: pn)) (.builtin "isinstance") (rIsX X.K a cls d) := by
  intro pins s σ H xs us Q I r h
  obtain ⟨D, c, cv, b, rfl, rfl, C, rfl, hcv, e, q⟩ := h
  exact call_isE C hz hf pins s σ H _ us Q I r ⟨c, cv, b, rfl, hcv, e, q⟩
end
/-- an exception of a subclass is what the clause names -/
theorem exm_sub {K : PySem.W.Frag} {S T : Addr} (h1 : PySem.W.subIn K (.ref T) (.type "BaseException") = some true) (h2 : PySem.W.isClsIn K T = true) (h3 : PySem.W.typeIn K (.ref T) = some (.type "type")) (h4 : PySem.W.subIn K (.ref S) (.ref T) = some true) :
    PySem.W.exmOne K (.ref S) (.ref T) = some true := by
  have e1 : (PySem.W.subIn K (.ref T) (.type "BaseException") == some true) = true := by rw [h1] <;> rfl
  have e2 : ((PySem.W.clsIn K T).isSome && PySem.W.typeIn K (.ref T) == some (.type "type")) = true := by
    have h2' : (PySem.W.clsIn K T).isSome = true := h2
    rw [h2', h3] <;> rfl
  show (if (PySem.W.subIn K (.ref T) (.type "BaseException") == some true) = true then (if ((PySem.W.clsIn K T).isSome && PySem.W.typeIn K (.ref T) == some (.type "type")) = true then PySem.W.subIn K (.ref S) (.ref T) else none) else none) = some true
  rw [if_pos e1, if_pos e2]
  exact h4
end Sg

set_option Elab.async false
set_option linter.all false
set_option maxRecDepth 100000
set_option maxHeartbeats 4000000
namespace Sg
open PySem PySem.Spec PyProof.Rows L2
def top (i : Nat) : Stmt := PySem.Challenge.pw_spindlegate_k28_state_of_live_records.main.body.getD i (.Pass ⟨0, 0, 0, 0⟩)
abbrev sWithKey : Stmt := top 2
abbrev sWithoutKey : Stmt := top 3
abbrev sWithHolder : Stmt := top 4
abbrev sFieldsOf : Stmt := top 7
abbrev sAnswerOf : Stmt := top 8
abbrev sEffects : Stmt := top 9
abbrev sOnce : Stmt := top 10
abbrev sEffKind : Stmt := top 11
abbrev sNewState : Stmt := top 13
abbrev sApply : Stmt := top 14
abbrev sFold : Stmt := top 15
abbrev sAfterEff : Stmt := top 16
abbrev sAfterWithin : Stmt := top 17
abbrev sWithoutSpace : Stmt := top 18
abbrev sWithEntry : Stmt := top 19
abbrev sChanged : Stmt := top 20
abbrev sLCell : Stmt := top 28
abbrev sLDigits : Stmt := top 29
abbrev sLMany : Stmt := top 30
abbrev sLAnswer : Stmt := top 31
abbrev sLWithout : Stmt := top 32
abbrev sLWith : Stmt := top 33
abbrev sLStart : Stmt := top 34
abbrev sLKey : Stmt := top 35
abbrev sLSpace : Stmt := top 36
abbrev sLAfter : Stmt := top 37
abbrev sLSure : Stmt := top 38
abbrev sLTold : Stmt := top 39
abbrev sLStep : Stmt := top 40
abbrev sLNamed : Stmt := top 41
abbrev sLRecord : Stmt := top 42
abbrev cR (i : Nat) : Stmt := inClass (top 23) i
abbrev sLiveRecs : Stmt := top 24
abbrev sLiveOrd : Stmt := top 25
abbrev sViews : Stmt := top 26
abbrev sLLeft : Stmt := top 43
abbrev sLaw : Stmt := top 44
structure Def (P : Program) (wd : World) (K : PySem.W.Frag) (mg : Str → Option Value) (base : Heap) (CX : CXT) (x : Str) (k : Nat) (ps : List Str) (sp : Sp) (f : Addr) (fd : FuncData) : Prop where
  ok : FnOk P wd K mg base CX k f fd ps sp
  bd : Binds K fd ps []
  kp : PySem.W.keepIn K (.ref f) = true
  mg : mg x = some (.ref f)
/-! ### what is kept -/
/-- every tuple is kept -/
structure TK (H H' : Hp) : Prop where
  t : ∀ a xs, H a = some (.tup xs) → H' a = some (.tup xs)
  f : ∀ a o xs, H a = some (.frz o (.tup xs)) → H' a = some (.frz o (.tup xs))
theorem TK.refl (H : Hp) : TK H H := ⟨fun _ _ h => h, fun _ _ _ h => h⟩
theorem TK.trans {H H1 H2 : Hp} (a : TK H H1) (b : TK H1 H2) : TK H H2 := ⟨fun x y h => b.t _ _ (a.t _ _ h), fun x y z h => b.f _ _ _ (a.f _ _ _ h)⟩
theorem TK.of {H H' : Hp} (s : Same H H') : TK H H' := ⟨fun _ _ h => s _ _ h, fun _ _ _ h => s _ _ h⟩
def Off (xs : List Addr) (H H' : Hp) : Prop := ∀ b o, H b = some o → b ∉ xs → H' b = some o
theorem Off.refl {xs : List Addr} (H : Hp) : Off xs H H := fun _ _ h _ => h
theorem Off.trans {xs : List Addr} {H H1 H2 : Hp} (a : Off xs H H1) (b : Off xs H1 H2) : Off xs H H2 := fun x o h n => b _ _ (a _ _ h n) n
theorem Off.of {xs : List Addr} {H H' : Hp} (s : Same H H') : Off xs H H' := fun _ _ h _ => s _ _ h
theorem Off.upd {xs : List Addr} {H : Hp} {p : Addr} {o : HO} (h : p ∈ xs) : Off xs H (upd H p o) := fun b u e n => by
  rw [upd_ne (fun (z : b = p) => n (by rw [z]; exact h))]; exact e
/-- lists and dicts alone were changed -/
theorem TK.off {xs : List Addr} {H H' : Hp} (o : Off xs H H') (h : ∀ x ∈ xs, (∃ l, H x = some (.lst l)) ∨ ∃ d, H x = some (.dK d)) : TK H H' := by
  refine ⟨fun a l e => o _ _ e fun m => ?_, fun a b l e => o _ _ e fun m => ?_⟩
  · rcases h a m with ⟨z, q⟩ | ⟨z, q⟩ <;> (rw [e] at q; cases q)
  · rcases h a m with ⟨z, q⟩ | ⟨z, q⟩ <;> (rw [e] at q; cases q)
section
variable {K : PySem.W.Frag} {H H' : Hp}
theorem sqT_tk {a : Addr} {xs : List V} (h : SqT K H a xs) (s : TK H H') : SqT K H' a xs := by
  rcases h with (h | ⟨o, h⟩) | h
  · exact .inl (.inl (s.t _ _ h))
  · exact .inl (.inr ⟨o, s.f _ _ _ h⟩)
  · exact .inr h
end
def strIn (s : Str) (ns : List Str) : Bool := ns.any fun y => decide (y = s)
theorem inV_str {s : Str} : ∀ {ns : List Str}, inV (.str s) (ns.map V.str) = strIn s ns
  | [] => rfl
  | n :: ns => by
    show (eqV (.str n) (.str s) || inV (.str s) (ns.map V.str)) = (decide (n = s) || strIn s ns)
    rw [inV_str (ns := ns)]
    rfl
theorem flat_strs : ∀ {ns : List Str}, (ns.map V.str).all flatV = true
  | [] => rfl
  | n :: ns => by rw [List.map_cons, List.all_cons, flat_strs (ns := ns)]; rfl
def strInD (ns : List Str) : PyData → Bool
  | .str s => strIn s ns
  | _ => false
theorem str_eqT {x : Str} : decide (V.str x = V.str x) = true := decide_eq_true rfl
theorem str_eqF {x y : Str} (h : ¬ x = y) : decide (V.str x = V.str y) = false := decide_eq_false (fun z => h (by cases z; rfl))
theorem nil_ {σ : L2.St} {H : Hp} {Q : List V → Hp → Prop} (h : Q [] H) : tNil σ H Q := h
theorem tc_ {σ : L2.St} {H : Hp} {v : V} {Q : List V → Hp → Prop} (h : Q [v] H) : tCons (tC v) tNil σ H Q := h
theorem yesIte {σ : L2.St} {H : Hp} {A B : Hp → Prop} (h : A H) : tYes σ H (fun b H3 => if b = true then A H3 else B H3) := by
  show (if true = true then A H else B H)
  rw [if_pos rfl]; exact h
/-- a method, ready to be called -/
structure Mth (P : Program) (wd : World) (K : PySem.W.Frag) (mg : Str → Option Value) (base : Heap) (CX : CXT) (C : Addr) (x : Str) (k : Nat) (ps : List Str) (sp : Sp) (f : Addr) (fd : FuncData) : Prop where
  ok : FnOk P wd K mg base CX k f fd ps sp
  bd : Binds K fd ps []
  me : Meth K C x f
theorem lk_here {k : Str} {v : V} {r : List (Str × V)} : List.lookup k ((k, v) :: r) = some v := by
  have e : (k == k) = true := beq_self_eq_true k
  simp only [List.lookup, e]
theorem lk_past {k g : Str} {v : V} {r : List (Str × V)} (h : (k == g) = false) : List.lookup k ((g, v) :: r) = List.lookup k r := by
  simp only [List.lookup, h]
theorem put_here {f : Str} {v x : V} {r : List (Str × V)} : putF f v ((f, x) :: r) = (f, v) :: r := if_pos rfl
theorem put_past {f g : Str} {v x : V} {r : List (Str × V)} (h : ¬ g = f) : putF f v ((g, x) :: r) = (g, x) :: putF f v r := if_neg h
end Sg

set_option Elab.async false
set_option linter.all false
set_option maxRecDepth 100000
set_option maxHeartbeats 4000000
namespace Sg
open PySem PySem.Spec PyProof.Rows L2
/-! ### data -/
def intB : PyData → Bool
  | .int _ => true
  | .bool _ => true
  | _ => false
def boolB : PyData → Bool
  | .bool _ => true
  | _ => false
def strB : PyData → Bool
  | .str _ => true
  | _ => false
def tupB : PyData → Bool
  | .tuple _ => true
  | _ => false
def lstB : PyData → Bool
  | .list _ => true
  | _ => false
def wholeD : PyData → Bool
  | .int _ => true
  | _ => false
def atLeastD (lo : Int) : PyData → Bool
  | .int i => decide (lo ≤ i)
  | _ => false
def betwD (lo hi : Int) : PyData → Bool
  | .int i => decide (lo ≤ i) && decide (i ≤ hi)
  | _ => false
/-- what a value's type is, by its data -/
theorem dp_ty {K : PySem.W.Frag} {H : Hp} {x : V} {d : PyData} (h : Dp K H x d) : ∃ t, TyX K H x t ∧ PySem.W.kitOne K t (.type "int") = some (intB d) ∧ PySem.W.kitOne K t (.type "bool") = some (boolB d) ∧ PySem.W.kitOne K t (.type "str") = some (strB d) ∧
    PySem.W.kitOne K t (.type "tuple") = some (tupB d) ∧ PySem.W.kitOne K t (.type "list") = some (lstB d) := by
  cases h with
  | non => exact ⟨_, .base .non, (show PySem.W.kitOne K (.type "NoneType") (.type "int") = some false from kit_ty (by decide +kernel)), (show PySem.W.kitOne K (.type "NoneType") (.type "bool") = some false from kit_ty (by decide +kernel)), (show PySem.W.kitOne K (.type "NoneType") (.type "str") = some false from kit_ty (by decide +kernel)), (show PySem.W.kitOne K (.type "NoneType") (.type "tuple") = some false from kit_ty (by decide +kernel)), (show PySem.W.kitOne K (.type "NoneType") (.type "list") = some false from kit_ty (by decide +kernel))⟩
  | bl b => exact ⟨_, .base (.bl b), (show PySem.W.kitOne K (.type "bool") (.type "int") = some true from kit_ty (by decide +kernel)), (show PySem.W.kitOne K (.type "bool") (.type "bool") = some true from kit_ty (by decide +kernel)), (show PySem.W.kitOne K (.type "bool") (.type "str") = some false from kit_ty (by decide +kernel)), (show PySem.W.kitOne K (.type "bool") (.type "tuple") = some false from kit_ty (by decide +kernel)), (show PySem.W.kitOne K (.type "bool") (.type "list") = some false from kit_ty (by decide +kernel))⟩
  | int i => exact ⟨_, .base (.int i), (show PySem.W.kitOne K (.type "int") (.type "int") = some true from kit_ty (by decide +kernel)), (show PySem.W.kitOne K (.type "int") (.type "bool") = some false from kit_ty (by decide +kernel)), (show PySem.W.kitOne K (.type "int") (.type "str") = some false from kit_ty (by decide +kernel)), (show PySem.W.kitOne K (.type "int") (.type "tuple") = some false from kit_ty (by decide +kernel)), (show PySem.W.kitOne K (.type "int") (.type "list") = some false from kit_ty (by decide +kernel))⟩
  | str x => exact ⟨_, .base (.str x), (show PySem.W.kitOne K (.type "str") (.type "int") = some false from kit_ty (by decide +kernel)), (show PySem.W.kitOne K (.type "str") (.type "bool") = some false from kit_ty (by decide +kernel)), (show PySem.W.kitOne K (.type "str") (.type "str") = some true from kit_ty (by decide +kernel)), (show PySem.W.kitOne K (.type "str") (.type "tuple") = some false from kit_ty (by decide +kernel)), (show PySem.W.kitOne K (.type "str") (.type "list") = some false from kit_ty (by decide +kernel))⟩
  | lst hs _ =>
    refine ⟨.type "list", ?_, (show PySem.W.kitOne K (.type "list") (.type "int") = some false from kit_ty (by decide +kernel)), (show PySem.W.kitOne K (.type "list") (.type "bool") = some false from kit_ty (by decide +kernel)), (show PySem.W.kitOne K (.type "list") (.type "str") = some false from kit_ty (by decide +kernel)), (show PySem.W.kitOne K (.type "list") (.type "tuple") = some false from kit_ty (by decide +kernel)), (show PySem.W.kitOne K (.type "list") (.type "list") = some true from kit_ty (by decide +kernel))⟩
    rcases hs with (h | ⟨o, h⟩) | ⟨o, its, n, h1, h2, _⟩
    · exact .base (.lst h)
    · exact .base (.frz h)
    · exact .kList h1 h2
  | tup hs _ =>
    refine ⟨.type "tuple", ?_, (show PySem.W.kitOne K (.type "tuple") (.type "int") = some false from kit_ty (by decide +kernel)), (show PySem.W.kitOne K (.type "tuple") (.type "bool") = some false from kit_ty (by decide +kernel)), (show PySem.W.kitOne K (.type "tuple") (.type "str") = some false from kit_ty (by decide +kernel)), (show PySem.W.kitOne K (.type "tuple") (.type "tuple") = some true from kit_ty (by decide +kernel)), (show PySem.W.kitOne K (.type "tuple") (.type "list") = some false from kit_ty (by decide +kernel))⟩
    rcases hs with (h | ⟨o, h⟩) | ⟨o, its, n, h1, h2, _⟩
    · exact .base (.tup h)
    · exact .fTuple h
    · exact .kTuple h1 h2
theorem SqT_same {K : PySem.W.Frag} {H H' : Hp} {a : Addr} {xs : List V} (s : Same H H') (h : SqT K H a xs) : SqT K H' a xs := by
  rcases h with (h | ⟨o, h⟩) | h
  · exact .inl (.inl (s _ _ h))
  · exact .inl (.inr ⟨o, s _ _ h⟩)
  · exact .inr h
mutual
theorem dp_same {K : PySem.W.Frag} {H H' : Hp} (s : Same H H') : ∀ (d : PyData) (x : V), Dp K H x d → Dp K H' x d
  | .none, _, h => by cases h; exact .non
  | .bool _, _, h => by cases h; exact .bl _
  | .int _, _, h => by cases h; exact .int _
  | .str _, _, h => by cases h; exact .str _
  | .list ds, _, h => by
    cases h with
    | lst hs ha => exact .lst (s.seq hs) (dpAll_same s ds _ ha)
  | .tuple ds, _, h => by
    cases h with
    | tup hs ha => exact .tup (SqT_same s hs) (dpAll_same s ds _ ha)
  | .dict _, _, h => by cases h
theorem dpAll_same {K : PySem.W.Frag} {H H' : Hp} (s : Same H H') : ∀ (ds : List PyData) (xs : List V), DpAll K H xs ds → DpAll K H' xs ds
  | [], _, h => by cases h; exact .nil
  | d :: ds, _, h => by
    cases h with
    | cons a b => exact .cons (dp_same s d _ a) (dpAll_same s ds _ b)
end
theorem boot_isi : bootBuiltins "isinstance" = some (.builtin "isinstance") := by decide +kernel
end Sg

set_option Elab.async false
set_option linter.all false
set_option maxRecDepth 100000
set_option maxHeartbeats 4000000
namespace Sg
open PySem PySem.Spec PyProof.Rows L2
open HT
section
variable {prog : Program} {w : World} {A : Around} {E : Value → Shared → Prop} {s : Shared}
/-- t[lo:hi] that takes all of a tuple is the tuple itself -/
theorem tup_all {t sl : Addr} {items : Array Value} {vl vu : Value} {lo hi : Option Int} {Q : Value → Shared → Prop} (ht : IsTup s.heap t items) (hs : s.heap.IsSliceOf sl vl vu .none) (pl : IsPart vl lo) (pu : IsPart vu hi)
    (h1 : sIx items.size 0 lo = 0) (h2 : sIx items.size items.size hi = items.size) (h : Q (.ref t) s) : wpAny (model prog w) A (getItem (.ref t) (.ref sl)) Q E s := by
  obtain ⟨os, hos, hcs, hds⟩ := id hs
  have hTs : s.TypeIs (.ref sl) "slice" := ⟨os, hos, hcs⟩
  unfold getItem
  try with_reducible refine wpAny_holding ?_
  first | refine wpAny_bind (wpAny_pure ?_) | skip
  refine wpAny_bind (wpAny_sequenceKey ht.typeIs (by decide) ?_)
  refine wpAny_bind (wpAny_callSpecial?_slot (name := Str.ofString "__getitem__") ht.typeIs PyProof.Rows.slot_tuple_getitem
    (wpAny_call_entry PyProof.Rows.slot_tuple_getitem ht.typeIs entry_tuple_getitem ?_ (args_tuple_getitem _ _)))
  show wpAny _ _ (Builtin.Tuple.tupleItemsOf (.ref t) >>= _) _ _ s
  refine wpAny_bind (tupleItemsOf_ ht (wpAny_bind (wpAny_typeOf hTs ?_)))
  rw [if_pos (by decide)]
  refine wpAny_bind (sliceApplied_gen hs pl pu ?_)
  rw [h1, h2]
  show wpAny _ _ (if (((0 : Nat) : Int) == 0 && (1 : Int) == 1 && (items.size - 0) == items.size) = true then _ else _) _ _ s
  rw [if_pos (by simp)]
  show wpAny _ _ (Builtin.Tuple.tupleIsExact (.ref t) >>= _) _ _ s
  refine wpAny_bind (m := Builtin.Tuple.tupleIsExact _) ?_
  unfold Builtin.Tuple.tupleIsExact
  refine wpAny_bind (wpAny_typeOf ht.typeIs (wpAny_pure ?_))
  rw [if_pos (by decide)]
  exact wpAny_bind (wpAny_rule (wpAny_pure ⟨_, rfl, wpAny_pure h⟩))
end
section
variable {X : Cx}
/-- t[lo:hi], a part or all of a tuple -/
def rSlA (K : PySem.W.Frag) : V → Option Int → Option Int → Hp → VK → Prop := fun x lo hi H Q => ∃ a xs, x = .ref a ∧ SqT K H a xs ∧ ∀ p H', Same H H' → SqT K H' p (cutV xs lo hi) → Q (.ref p) H'
theorem sl_any : SlR X (rSlA X.K) := by
  intro pins s σ H x v vl vu lo hi sl Q I rx hs pl pu h
  obtain ⟨a, xs, rfl, hx, q⟩ := h
  by_cases hw : sIx xs.length 0 lo = 0 ∧ sIx xs.length xs.length hi = xs.length
  · cases rx
    obtain ⟨its, r, ht, hz⟩ := I.tuple hx
    have hlen : its.toArray.size = xs.length := by rw [List.size_toArray]; exact r.length.symm
    refine ⟨"tuple", _, PyProof.Rows.slot_tuple_getitem.lookup, ht.typeIs, ?_⟩
    refine tup_all ht hs pl pu (by rw [hlen]; exact hw.1) (by rw [hlen]; exact hw.2) ⟨.ref a, H, I, rfl, q a H (Same.refl H) ?_⟩
    have e : cutV xs lo hi = xs := by
      unfold cutV
      rw [hw.1, hw.2]
      simp
    rw [e]
    exact hx
  · exact sl_tup pins s σ H (.ref a) v vl vu lo hi sl Q I rx hs pl pu ⟨a, xs, rfl, hx, hw, fun p hp => q p _ (same_new hp) (SqT.of upd_same)⟩
/-- x is b, x is not b: b True or False -/
def rIsB (neg : Bool) : R2 := fun x y H Q => ∃ b c, y = .bl b ∧ x = .bl c ∧ Q (.bl (if neg then !decide (c = b) else decide (c = b))) H
theorem op_isB : OpR X (compareOp .Is) (rIsB false) := by
  intro pins s σ H x y v u Q I rx ry h
  obtain ⟨b, c, rfl, rfl, q⟩ := h
  cases rx
  cases ry
  have e : (Value.bool c == Value.bool b) = decide (c = b) := by cases b <;> cases c <;> rfl
  exact wpAny_is_plain rfl ⟨.bl (decide (c = b)), H, I, by rw [e]; rfl, q⟩
theorem op_isNotB : OpR X (compareOp .IsNot) (rIsB true) := by
  intro pins s σ H x y v u Q I rx ry h
  obtain ⟨b, c, rfl, rfl, q⟩ := h
  cases rx
  cases ry
  have e : (Value.bool c == Value.bool b) = decide (c = b) := by cases b <;> cases c <;> rfl
  show wpAny _ _ ((isSame (Value.bool c) (Value.bool b)) >>= fun z => pure (Value.bool (!z))) _ _ s
  exact wpAny_bind (wpAny_isSame_plain rfl (wpAny_pure ⟨.bl (!decide (c = b)), H, I, by rw [e]; rfl, q⟩))
end
section
variable {K : PySem.W.Frag} {σ : L2.St} {H1 : Hp} {D a b : Addr} {vs : List Nat} {j1 j2 : Nat} {xs ys : List V} {te : TE} {Qd : Hp → Prop}
theorem lc_zipS (bs : List Bool) (hl : xs.length = ys.length) (hlen : bs.length = xs.length) (hD : H1 D = Option.none) (hx : SqT K H1 a xs) (hy : SqT K H1 b ys) (hw : ∀ x y, wipe (((wipe σ vs).set j1 (some x)).set j2 (some y)) vs = wipe σ vs) (hz : xs.length ≤ 1000)
    (he : ∀ (i : Nat) (x y : V) (bb : Bool) (H' : Hp) (Q' : VK), xs[i]? = some x → ys[i]? = some y → bs[i]? = some bb → Same H1 H' → (∀ H'', Same H' H'' → Q' (.bl bb) H'') → te (((wipe σ vs).set j1 (some x)).set j2 (some y)) H' Q')
    (hd : ∀ H', Same H1 H' → H' D = some (.lst (bs.map V.bl)) → Qd H') :
    ∃ W : Nat → Nat → Hp → Prop, (∃ m, W 0 m (upd H1 D (.lst []))) ∧ ∀ i m H, W i m H →
      ((RZ.ItzT K a b).stop i H ∧ Qd H) ∨ ((RZ.ItzT K a b).go i H ∧ ∃ Nx : Hp → Prop, (∀ H', Nx H' → ∃ m', m' < m ∧ W (i + 1) m' H') ∧ ∀ x H', (RZ.ItzT K a b).yld i H x H' → gTup K 2 (gCons (gName j1) (gCons (gName j2) gNil)) x (wipe σ vs) H' fun σ2 H2 => wipe σ2 vs = wipe σ vs ∧ tYes σ2 H2 fun b H3 =>
        if b = true then te σ2 H3 fun y H4 => ∃ acc, H4 D = some (.lst acc) ∧ acc.length < sizeLine ∧ Nx (upd H4 D (.lst (acc ++ [y]))) else Nx H3) := by
  refine ⟨fun i m H => m = xs.length - i ∧ i ≤ xs.length ∧ Same H1 H ∧ H D = some (.lst ((bs.map V.bl).take i)), ⟨xs.length, by simp, Nat.zero_le _, same_new hD, upd_same⟩, ?_⟩
  rintro i m H ⟨rfl, hi, sm, hDl⟩
  have hxa := SqT_same sm hx
  have hyb := SqT_same sm hy
  by_cases hlt : i < xs.length
  · have hix : xs[i]? = some xs[i] := List.getElem?_eq_getElem hlt
    have hiy : ys[i]? = some (ys[i]'(by omega)) := List.getElem?_eq_getElem (by omega)
    have hib : bs[i]? = some (bs[i]'(by omega)) := List.getElem?_eq_getElem (by omega)
    refine .inr ⟨⟨xs, ys, _, _, hxa, hyb, hix, hiy⟩, fun H' => i + 1 ≤ xs.length ∧ Same H1 H' ∧ H' D = some (.lst ((bs.map V.bl).take (i + 1))), fun H' p' => ⟨xs.length - (i + 1), by omega, rfl, p'⟩, ?_⟩
    rintro x H' ⟨T, x0, y0, rfl, hT, rfl, f1, f2⟩
    have e1 := f1 _ hxa
    have e2 := f2 _ hyb
    have s2 := same_new (o := .tup [x0, y0]) hT
    refine ⟨T, _, rfl, SqT.of upd_same, rfl, _, _, rfl, _, _, rfl, rfl, hw _ _, yesIte ?_⟩
    refine he i x0 y0 _ _ _ e1 e2 hib (sm.trans s2) fun H'' s3 => ⟨_, s3 _ _ (s2 _ _ hDl), ?_, by omega, ?_, ?_⟩
    · rw [List.length_take]; exact small1000 (by omega)
    · intro y o hy'
      rw [upd_ne (ne_of_none hy' hD)]
      exact s3 _ _ (s2 _ _ (sm _ _ hy'))
    · rw [upd_same, List.take_add_one, List.getElem?_map, hib]; rfl
  · have e : i = xs.length := by omega
    refine .inl ⟨⟨xs, ys, hxa, hyb, .inl (by omega)⟩, hd H sm ?_⟩
    rw [hDl, e, List.take_of_length_le (by rw [List.length_map]; omega)]
end
theorem dpAll_len {K : PySem.W.Frag} {H : Hp} : ∀ {xs : List V} {ds : List PyData}, DpAll K H xs ds → xs.length = ds.length
  | _, _, .nil => rfl
  | _, _, .cons _ b => by rw [List.length_cons, List.length_cons, dpAll_len b]
theorem dpAll_cons {K : PySem.W.Frag} {H : Hp} {xs : List V} {d : PyData} {ds : List PyData} (h : DpAll K H xs (d :: ds)) : ∃ x xs', xs = x :: xs' ∧ Dp K H x d ∧ DpAll K H xs' ds := by
  cases h with
  | cons a b => exact ⟨_, _, rfl, a, b⟩
theorem dpAll_nil {K : PySem.W.Frag} {H : Hp} {xs : List V} (h : DpAll K H xs []) : xs = [] := by cases h; rfl
theorem dp_tup {K : PySem.W.Frag} {H : Hp} {x : V} {d : PyData} (h : Dp K H x d) (t : tupB d = true) : ∃ a xs ds, x = .ref a ∧ d = .tuple ds ∧ SqT K H a xs ∧ DpAll K H xs ds := by
  cases h <;> first | exact ⟨_, _, _, rfl, rfl, ‹_›, ‹_›⟩ | cases t
theorem dpAll_get {K : PySem.W.Frag} {H : Hp} : ∀ {xs : List V} {ds : List PyData} {i : Nat} {x : V}, DpAll K H xs ds → xs[i]? = some x → ∃ d, ds[i]? = some d ∧ Dp K H x d
  | _, _, i, x, .nil, h => by simp at h
  | _, _, 0, x, .cons a b, h => ⟨_, rfl, by simp at h; subst h; exact a⟩
  | _, _, i + 1, x, .cons a b, h => by
    obtain ⟨d, e1, e2⟩ := dpAll_get b (i := i) (by simpa using h)
    exact ⟨d, by simpa using e1, e2⟩
theorem cut_take {xs : List V} {n : Nat} (h : n ≤ xs.length) : cutV xs Option.none (some (n : Int)) = xs.take n := by
  unfold cutV
  rw [show HT.sIx xs.length 0 none = 0 from HT.sIx_none _ _, HT.sIx_nat, Nat.min_eq_left h]
  simp
theorem cut_drop {xs : List V} {n : Nat} (h : n ≤ xs.length) : cutV xs (some (n : Int)) Option.none = xs.drop n := by
  unfold cutV
  rw [show HT.sIx xs.length xs.length none = xs.length from HT.sIx_none _ _, HT.sIx_nat, Nat.min_eq_left h]
  exact List.take_of_length_le (by rw [List.length_drop]; omega)
theorem shaped_of {d : PyData} (h : d.canLay0 = true) (h' : d.depth ≤ 64) : SeqAt.shaped d = true := by
  show (d.canLay0 && decide (d.depth ≤ 64)) = true
  rw [Bool.and_eq_true]; exact ⟨h, decide_eq_true h'⟩
abbrev cntL : List Int := [1, 2, 1, 3, 2, 1, 2, 1, 2, 2, 1, 3]
end Sg

set_option Elab.async false
set_option linter.all false
set_option maxRecDepth 100000
set_option maxHeartbeats 4000000
/-! match: patterns by values, what they bind by the names' places -/
namespace Sg
open PySem PySem.Spec PyProof.Rows L2
def BindOk (X : Cx) (b : Str × Value) (c : Nat × V) : Prop := X.N[c.1]? = some b.1 ∧ Loc X.env.scope b.1 ∧ (X.fn b.1 = true ∨ X.env.scope.names.lookup b.1 = some .local) ∧ RelV c.2 b.2
inductive OB (X : Cx) : Option (List (Str × Value)) → Option (List (Nat × V)) → Prop
  | none : OB X none none
  | some {bs cs} : Paired (BindOk X) bs cs → OB X (some bs) (some cs)
abbrev TPt := V → Hp → (Option (List (Nat × V)) → Prop) → Prop
abbrev TPts := List V → Hp → (Option (List (Nat × V)) → Prop) → Prop
structure PPt (X : Cx) (p : Pattern) (t : TPt) : Prop where
  run : ∀ (pins : List (Addr × Obj)) (s : Shared) (σ : L2.St) (H : Hp) (v : V) (u : Value) (Q : Option (List (Nat × V)) → Prop), Inv X pins σ H s → RelV v u → t v H Q →
    wpAny (model X.prog X.w) X.A (matchPattern p X.env u) (fun r s' => ∃ o, Inv X pins σ H s' ∧ OB X r o ∧ Q o) X.xe s
structure PPts (X : Cx) (ps : List Pattern) (t : TPts) : Prop where
  run : ∀ (pins : List (Addr × Obj)) (s : Shared) (σ : L2.St) (H : Hp) (vs : List V) (us : List Value) (Q : Option (List (Nat × V)) → Prop), Inv X pins σ H s → Vals vs us → t vs H Q →
    wpAny (model X.prog X.w) X.A (matchEach ps X.env us) (fun r s' => ∃ o, Inv X pins σ H s' ∧ OB X r o ∧ Q o) X.xe s
def mWild : TPt := fun _ _ Q => Q (some [])
def mCap (i : Nat) : TPt := fun v _ Q => Q (some [(i, v)])
def mStr (x : Str) : TPt := fun v _ Q => ∃ y, v = .str y ∧ Q (if y = x then some [] else none)
def mNone : TPt := fun v _ Q => Q (if v = .non then some [] else none)
def mBool (b : Bool) : TPt := fun v _ Q => ∃ c, v = .bl c ∧ Q (if c = b then some [] else none)
def mNil : TPts := fun _ _ Q => Q (some [])
def mCons (t : TPt) (u : TPts) : TPts := fun vs H Q => ∃ v r, vs = v :: r ∧ t v H fun o => match o with
  | none => Q none
  | some bs => u r H fun o' => match o' with
    | none => Q none
    | some cs => Q (some (bs ++ cs))
def mSeq (K : PySem.W.Frag) (n : Nat) (t : TPts) : TPt := fun v H Q => ∃ a xs, v = .ref a ∧ SqT K H a xs ∧ (xs.length = n → t xs H Q) ∧ (xs.length ≠ n → Q none)
theorem Paired.app {α β : Type} {F : α → β → Prop} : ∀ {a : List α} {b : List β} {c : List α} {d : List β}, Paired F a b → Paired F c d → Paired F (a ++ c) (b ++ d)
  | _, _, _, _, .nil, q => q
  | _, _, _, _, .cons r t, q => .cons r (Paired.app t q)
section
variable {X : Cx}
theorem mp_wild {pos : Pos} : PPt X (.MatchAs none none pos) mWild := ⟨fun pins s σ H v u Q I r h => wpAny_matchPattern_Capture ⟨_, I, .some .nil, h⟩⟩
theorem mp_cap {i : Nat} {x : Str} {pos : Pos} (hi : X.N[i]? = some x) (hx : Loc X.env.scope x) (hf : X.fn x = true ∨ X.env.scope.names.lookup x = some .local := by first | exact .inl rfl | exact .inr rfl | assumption) : PPt X (.MatchAs none (some x) pos) (mCap i) :=
  ⟨fun pins s σ H v u Q I r h => wpAny_matchPattern_Capture ⟨_, I, .some (.cons ⟨hi, hx, hf, r⟩ .nil), h⟩⟩
theorem mp_str {x : Str} {j : Nat} {p pos : Pos} : PPt X (.MatchValue (.Constant (.str x) j p) pos) (mStr x) := by
  refine ⟨fun pins s σ H v u Q I r h => ?_⟩
  obtain ⟨y, rfl, q⟩ := h
  refine wpAny_matchPattern_Value (thn ((pe_str (X := X)).run pins s σ H (fun v' H' => v' = .str x ∧ H' = H) I ⟨rfl, rfl⟩) fun u2 s2 ⟨v2, H2, I2, r2, e2, e3⟩ => ?_)
  subst e2 e3
  refine thn (op_eq (X := X) pins s2 σ H2 (.str y) (.str x) u u2 (fun v' H' => v' = .bl (decide (V.str y = V.str x)) ∧ H' = H2) I2 r r2 ⟨rfl, rfl, rfl⟩) fun c s3 ⟨v3, H3, I3, r3, e4, e5⟩ => ?_
  subst e4 e5
  cases r3
  refine wpAny_truthy_bool ?_
  by_cases e : y = x
  · subst e
    rw [decide_eq_true rfl]
    rw [if_pos rfl] at q
    exact ⟨_, I3, .some .nil, q⟩
  · rw [decide_eq_false (fun z => e (by cases z; rfl))]
    rw [if_neg e] at q
    exact ⟨_, I3, .none, q⟩
theorem mp_none {pos : Pos} : PPt X (.MatchSingleton .none pos) mNone := by
  refine ⟨fun pins s σ H v u Q I r h => ?_⟩
  rw [arm_matchPattern_MatchSingleton]
  refine wpAny_pure ?_
  cases v with
  | non => cases r; exact ⟨_, I, .some .nil, h⟩
  | bl b => cases r; exact ⟨_, I, .none, h⟩
  | int i => obtain ⟨t, rfl⟩ := r; exact ⟨_, I, .none, h⟩
  | str i => obtain ⟨t, rfl⟩ := r; exact ⟨_, I, .none, h⟩
  | byt i => obtain ⟨t, rfl⟩ := r; exact ⟨_, I, .none, h⟩
  | flt i => obtain ⟨t, rfl⟩ := r; exact ⟨_, I, .none, h⟩
  | ref a => cases r; exact ⟨_, I, .none, h⟩
  | ty n => cases r; exact ⟨_, I, .none, h⟩
theorem mp_bool {b : Bool} {pos : Pos} : PPt X (.MatchSingleton (.bool b) pos) (mBool b) := by
  refine ⟨fun pins s σ H v u Q I r h => ?_⟩
  obtain ⟨c, rfl, q⟩ := h
  cases r
  rw [arm_matchPattern_MatchSingleton]
  refine wpAny_pure ?_
  cases b <;> cases c
  · exact ⟨_, I, .some .nil, q⟩
  · exact ⟨_, I, .none, q⟩
  · exact ⟨_, I, .none, q⟩
  · exact ⟨_, I, .some .nil, q⟩
theorem mps_nil : PPts X [] mNil := ⟨fun pins s σ H vs us Q I r h => wpAny_matchEach_nil ⟨_, I, .some .nil, h⟩⟩
theorem mps_cons {p : Pattern} {ps : List Pattern} {t : TPt} {u : TPts} (h1 : PPt X p t) (h2 : PPts X ps u) (hp : p.isStar = false := by rfl) : PPts X (p :: ps) (mCons t u) := by
  refine ⟨fun pins s σ H vs us Q I r h => ?_⟩
  obtain ⟨v, vr, rfl, h⟩ := h
  cases r with
  | cons r0 rr =>
    refine wpAny_matchEach_cons (thn (h1.run pins s σ H v _ _ I r0 h) fun r1 s1 ⟨o, I1, ob, q⟩ => ?_) hp
    cases ob with
    | none => exact ⟨_, I1, .none, q⟩
    | some pr =>
      refine thn (h2.run pins s1 σ H vr _ _ I1 rr q) fun r2 s2 ⟨o2, I2, ob2, q2⟩ => ?_
      cases ob2 with
      | none => exact ⟨_, I2, .none, q2⟩
      | some pr2 => exact ⟨_, I2, .some (Paired.app pr pr2), q2⟩
theorem mp_seq {ps : List Pattern} {pos : Pos} {t : TPts} {n : Nat} (hc : X.calm = true) (hs : PPts X ps t) (hn : ps.length = n := by rfl) (hstar : ps.findIdx? (·.isStar) = none := by rfl)
    (hwild : (ps.all fun p => p.isWildcard || (p.isStar && p.names.isEmpty)) = false := by rfl) : PPt X (.MatchSequence ps pos) (mSeq X.K n t) := by
  refine ⟨fun pins s σ H v u Q I r h => ?_⟩
  obtain ⟨a, xs, rfl, hq, h1, h2⟩ := h
  cases r
  obtain ⟨its, rv, ht, hz⟩ := I.tuple hq
  have hl : its.toArray.size = xs.length := by rw [List.size_toArray]; exact rv.length.symm
  have h63 := line63
  by_cases e : xs.length = n
  · refine matchSeq_tuple_hit ht (by rw [hl]; omega) (by rw [hl, hn]; exact e) ?_ hstar hwild
    rw [show ps.length = its.toArray.size by rw [hl, hn, e]]
    have I1 : Inv X pins σ H { s with toks := s.toks + 1 + 1 } := I.tok _
    refine unpackItems_tuple (I.ok.hd hc) ht fun h' hx => ?_
    have I2 : Inv X pins σ H { s with heap := h', toks := s.toks + 1 + 1 } := I.kept (t' := s.toks + 1 + 1) fun b o e => hx b o (Nat.ne_of_lt (Heap.lt_size e)) e
    exact hs.run pins _ σ H xs _ Q I2 rv (h1 e)
  · exact matchSeq_tuple_miss ht (by rw [hl]; omega) (by rw [hl, hn]; exact e) ⟨_, I.tok _, .none, h2 e⟩ hstar hwild
/-! ### the cases -/
abbrev TCs := V → TS
structure PCs (X : Cx) (cs : List MatchCase) (t : TCs) : Prop where
  run : ∀ (pins : List (Addr × Obj)) (s : Shared) (σ : L2.St) (H : Hp) (D : Ends) (v : V) (u : Value) (first : Bool), Inv X pins σ H s → RelV v u → t v D σ H →
    wpAny (model X.prog X.w) X.A (matchCases cs X.env u first) (SP X pins D) X.xe s
def setAll (σ : L2.St) (bs : List (Nat × V)) : L2.St := bs.foldl (fun s b => s.set b.1 (some b.2)) σ
def cNil : TCs := fun _ D σ H => D.nx σ H
def cCons (tp : TPt) (tb : TS) (rest : TCs) : TCs := fun v D σ H => tp v H fun o => match o with
  | none => rest v D σ H
  | some bs => tb D (setAll σ bs) H
theorem pcs_nil : PCs X [] cNil := ⟨fun pins s σ H D v u f I r h => wpAny_matchCases_nil ⟨σ, H, I, h⟩⟩
theorem bind_all (hN : X.N.Nodup) {pins : List (Addr × Obj)} {H : Hp} : ∀ {bs : List (Str × Value)} {cs : List (Nat × V)}, Paired (BindOk X) bs cs → ∀ {σ : L2.St} {s : Shared} {Q : Unit → Shared → Prop}, Inv X pins σ H s →
    (∀ s', Inv X pins (setAll σ cs) H s' → Q () s') → wpAny (model X.prog X.w) X.A (assignInOrder (bs.map fun (n, _) => bindName X.env n) (bs.map (·.2))) Q X.xe s
  | _, _, .nil, σ, s, Q, I, h => wpAny_assignInOrder_none (h s I)
  | _, _, .cons (a := b) (b := c) r t, σ, s, Q, I, h => by
    obtain ⟨x, u⟩ := b
    obtain ⟨i, v⟩ := c
    obtain ⟨h1, h2, h3, h4⟩ := r
    refine wpAny_assignInOrder_more (wpAny_bindName (store_ok I hN h1 h2 h4 (fun s' I' => ?_) h3))
    exact bind_all hN t I' h
theorem pcs_cons {p : Pattern} {body : List Stmt} {rest : List MatchCase} {tp : TPt} {tb : TS} {tr : TCs} (hN : X.N.Nodup) (hp : PPt X p tp) (hb : PSs X body tb) (hr : PCs X rest tr) : PCs X (⟨p, none, body⟩ :: rest) (cCons tp tb tr) := by
  refine ⟨fun pins s σ H D v u f I r h => ?_⟩
  refine wpAny_matchCases_cons (thn (hp.run pins s σ H v u _ I r h) fun o s1 ⟨c, I1, ob, q⟩ => ?_)
  cases ob with
  | none => exact hr.run pins s1 σ H D v u false I1 r q
  | some pr => exact bind_all hN pr I1 fun s' I' => hb.run pins s' _ H D I' q
def tMatch (te : TE) (tc : TCs) : TS := fun D σ H => te σ H fun v H1 => tc v D σ H1
theorem ps_match {e : Expr} {cs : List MatchCase} {pos : Pos} {te : TE} {tc : TCs} (he : PE X e te) (hc : PCs X cs tc) : PS X (.Match e cs pos) (tMatch te tc) := by
  refine ⟨fun pins s σ H D I h => ?_⟩
  exact wpAny_Match (thn (he.run pins s σ H _ I h) fun u s1 ⟨v, H1, I1, r1, q1⟩ => hc.run pins s1 σ H1 D v u true I1 r1 q1)
/-- a case with a guard -/
def cGuard (tp : TPt) (tg : TT) (tb : TS) (rest : TCs) : TCs := fun v D σ H => tp v H fun o => match o with
  | none => rest v D σ H
  | some bs => tg (setAll σ bs) H fun ok H' => if ok = true then tb D (setAll σ bs) H' else rest v D (setAll σ bs) H'
theorem pcs_guard {p : Pattern} {ge : Expr} {body : List Stmt} {rest : List MatchCase} {tp : TPt} {tg : TT} {tb : TS} {tr : TCs} (hN : X.N.Nodup) (hp : PPt X p tp) (hg : PT X ge tg) (hb : PSs X body tb) (hr : PCs X rest tr) : PCs X (⟨p, some ge, body⟩ :: rest) (cGuard tp tg tb tr) := by
  refine ⟨fun pins s σ H D v u f I r h => ?_⟩
  refine wpAny_matchCases_cons (thn (hp.run pins s σ H v u _ I r h) fun o s1 ⟨c, I1, ob, q⟩ => ?_)
  cases ob with
  | none => exact hr.run pins s1 σ H D v u false I1 r q
  | some pr =>
    refine bind_all hN pr I1 fun s' I' => ?_
    refine thn (hg.run pins s' _ H _ I' q) fun ok s2 ⟨H2, I2, q2⟩ => ?_
    cases ok with
    | true =>
      rw [if_pos rfl] at q2
      exact hb.run pins s2 _ H2 D I2 q2
    | false =>
      rw [if_neg Bool.false_ne_true] at q2
      exact hr.run pins s2 _ H2 D v u false I2 r q2
def mInt (n : Int) : TPt := fun v _ Q => ∃ y, v = .int y ∧ Q (if y = n then some [] else none)
theorem mp_int {n : Int} {j : Nat} {p pos : Pos} : PPt X (.MatchValue (.Constant (.int n) j p) pos) (mInt n) := by
  refine ⟨fun pins s σ H v u Q I r h => ?_⟩
  obtain ⟨y, rfl, q⟩ := h
  refine wpAny_matchPattern_Value (thn ((pe_int (X := X)).run pins s σ H (fun v' H' => v' = .int n ∧ H' = H) I ⟨rfl, rfl⟩) fun u2 s2 ⟨v2, H2, I2, r2, e2, e3⟩ => ?_)
  subst e2 e3
  refine thn (op_eq (X := X) pins s2 σ H2 (.int y) (.int n) u u2 (fun v' H' => v' = .bl (decide (V.int y = V.int n)) ∧ H' = H2) I2 r r2 ⟨rfl, rfl, rfl⟩) fun c s3 ⟨v3, H3, I3, r3, e4, e5⟩ => ?_
  subst e4 e5
  cases r3
  refine wpAny_truthy_bool ?_
  by_cases e : y = n
  · subst e
    rw [decide_eq_true rfl]
    rw [if_pos rfl] at q
    exact ⟨_, I3, .some .nil, q⟩
  · rw [decide_eq_false (fun z => e (by cases z; rfl))]
    rw [if_neg e] at q
    exact ⟨_, I3, .none, q⟩
end
end Sg

set_option Elab.async false
set_option linter.all false
set_option maxRecDepth 100000
set_option maxHeartbeats 4000000
/-! tuples without a dict of their own; dict(t) of such; x in t of data; d != {} -/
namespace Sg
open PySem PySem.Spec PyProof.Rows L2
def SqP (K : PySem.W.Frag) (H : Hp) (a : Addr) (xs : List V) : Prop :=
  (∃ o : Obj, H a = some (.frz o (.tup xs)) ∧ o.dict = none) ∨
    ∃ (o : Obj) (its : Array Value) (n : Nat), K.lookup a = some o ∧ o.cls = .type "tuple" ∧ o.dict = none ∧ o.data = .seq its n ∧ its.size ≤ sizeLine ∧ Vals xs its.toList
theorem SqP.t {K : PySem.W.Frag} {H : Hp} {a : Addr} {xs : List V} (h : SqP K H a xs) : SqT K H a xs := by
  rcases h with ⟨o, h, _⟩ | ⟨o, its, n, h1, h2, _, h3, h4, h5⟩
  · exact .inl (.inr ⟨o, h⟩)
  · exact .inr ⟨o, its, n, h1, h2, h3, h4, h5⟩
theorem SqP.plain {X : Cx} {pins : List (Addr × Obj)} {σ : L2.St} {H : Hp} {s : Shared} {a : Addr} {xs : List V} (I : Inv X pins σ H s) (h : SqP X.K H a xs) : ∃ its : List Value, Vals xs its ∧ PlainSeq "tuple" s.heap a its.toArray ∧ xs.length ≤ sizeLine := by
  rcases h with ⟨o, h, hd⟩ | ⟨o, its, n, h1, h2, hd, h3, h4, h5⟩
  · obtain ⟨e, z, its, r, o', e', hc, n, hdat⟩ := I.hok a _ h
    rw [e] at e'; cases e'
    exact ⟨its, r, ⟨o, n, e, hc, hd, hdat⟩, z⟩
  · refine ⟨its.toList, h5, ⟨o, n, I.kIn a o h1, h2, hd, by simpa using h3⟩, ?_⟩
    have e := h5.length
    simp only [Array.length_toList] at e
    omega
section
variable {X : Cx}
theorem pairs_of2 {pins : List (Addr × Obj)} {σ : L2.St} {H : Hp} {s : Shared} (I : Inv X pins σ H s) : ∀ {ps : List Addr} {kvs : List (Key × V)}, Paired (fun p kv => SqT X.K H p [kV kv.1, kv.2]) ps kvs →
    ∃ (prs : List (Key × Value)) (us : List (Value × Value)), KV kvs prs ∧ prs.length = ps.length ∧ us.length = ps.length ∧ ∀ (j : Nat) (k v : Value), us[j]? = some (k, v) → (∃ b : Addr, ps[j]? = some b ∧ IsTup s.heap b #[k, v]) ∧ ∃ key, prs[j]? = some (key, v) ∧ keyIs key k = true
  | _, _, .nil => ⟨[], [], .nil, rfl, rfl, fun j k v e => by simp at e⟩
  | _, _, .cons (a := p) (b := kv) h t => by
    obtain ⟨prs, us, r, hl, hl2, hp⟩ := pairs_of2 I t
    obtain ⟨its, rv, ht, _⟩ := I.tuple h
    obtain ⟨u, y, ei, ru, ry⟩ := vals2 rv
    subst ei
    refine ⟨(kv.1, y) :: prs, (u, y) :: us, .cons ⟨rfl, ry⟩ r, by rw [List.length_cons, List.length_cons, hl], by rw [List.length_cons, List.length_cons, hl2], fun j k v e => ?_⟩
    cases j with
    | zero =>
      have e' : (u, y) = (k, v) := Option.some.inj e
      cases e'
      exact ⟨⟨p, rfl, ht⟩, kv.1, rfl, kV_is (P := X.prog) (w := X.w) ru⟩
    | succ j =>
      obtain ⟨⟨b, e1, e2⟩, key, e3, e4⟩ := hp j k v (by simpa using e)
      exact ⟨⟨b, by simpa using e1, e2⟩, key, by simpa using e3, e4⟩
def rDictT (K : PySem.W.Frag) : List V → Hp → VK → Prop := fun xs H Q => ∃ (a : Addr) (ps : List Addr) (kvs : List (Key × V)), xs = [.ref a] ∧ SqP K H a (ps.map V.ref) ∧ Paired (fun p kv => SqT K H p [kV kv.1, kv.2]) ps kvs ∧
    ∀ p, H p = none → Q (.ref p) (upd H p (.dK (mergeK [] kvs)))
/-- dict(t) of a tuple of pairs -/
theorem call_dictT (hcalm : X.calm = true) : CallR X (.type "dict") (rDictT X.K) := by
  intro pins s σ H xs us Q I r q
  obtain ⟨a, ps, kvs, ex, hq, hp, q⟩ := q
  subst ex
  obtain ⟨u, eu, rx⟩ := vals1 r
  subst eu
  cases rx
  obtain ⟨its, rv, pl, hz⟩ := hq.plain I
  have ei := refs_at rv
  subst ei
  rw [List.length_map] at hz
  obtain ⟨prs, us2, rel, hl, hl2, hpr⟩ := pairs_of2 I hp
  have hh := I.ok.hd hcalm
  refine PySem.call_dict_pairs (knd := mixKind X.prog X.w) (kvs := prs) (PairArg.tuple a (ps.map Value.ref).toArray (fun j => ps.getD j 0) us2) hh ⟨pl, ?_, fun j k v e => ?_⟩ ⟨?_, fun j k v e => ?_⟩ ?_ fun h' tk hd' k => ?_
  · simp [hl2]
  · obtain ⟨⟨b, e1, e2⟩, _⟩ := hpr j k v e
    have e3 : ps.getD j 0 = b := by rw [List.getD_eq_getElem?_getD, e1]; rfl
    show _ = some (Value.ref (ps.getD j 0)) ∧ PairAt s.heap (ps.getD j 0) k v
    rw [e3]
    refine ⟨by simp [e1], .inl e2⟩
  · rw [hl, hl2]
  · obtain ⟨_, key, e3, e4⟩ := hpr j k v e
    exact ⟨key, e3, e4⟩
  · rw [hl2]; exact hz
  · have hm : (s.heap.objs.size == sysModules) = false := beq_eq_false_iff_ne.mpr (Nat.ne_of_gt I.big)
    have hlen : (mergeK [] kvs).length ≤ sizeLine := by
      refine Nat.le_trans (length_mergeK kvs []) ?_
      rw [List.length_nil, Nat.zero_add, rel.length, hl]
      exact hz
    exact ⟨.ref s.heap.objs.size, upd H s.heap.objs.size (.dK (mergeK [] kvs)), I.laid (t' := tk) (fun b o e => k b o (by simp) e) (Nat.le_refl _) (show ObjOk X.prog X.w _ _ _ (.dK (mergeK [] kvs)) from ⟨hlen, hm, merged [] prs, KV.merge rel .nil, hd'⟩), rfl, q _ (I.hok.fresh (Nat.le_refl _))⟩
/-- tuple(l) of a list: a new tuple without a dict of its own -/
def rTupP (K : PySem.W.Frag) : List V → Hp → VK → Prop := fun xs H Q => ∃ p ys, xs = [.ref p] ∧ SqL K H p ys ∧ ∀ (l : Addr) (o : Obj), H l = none → o.dict = none → Q (.ref l) (upd H l (.frz o (.tup ys)))
theorem call_tupP : CallR X (.type "tuple") (rTupP X.K) := by
  intro pins s σ H xs us Q I r h
  obtain ⟨p, ys, rfl, hq, q⟩ := h
  obtain ⟨u, rfl, rx⟩ := vals1 r
  cases rx
  obtain ⟨its, r', pl, hz⟩ := I.list hq
  have hlen := r'.length
  refine call_tuple_list pl.isList (fun h' kp => ?_) (by simp only [List.size_toArray] <;> omega)
  have I1 : Inv X pins σ H { s with heap := h' } := I.kept (t' := s.toks) kp
  have hget : (h'.push { cls := .type "tuple", data := .seq its.toArray }).get? h'.objs.size = some { cls := .type "tuple", data := .seq its.toArray } := Heap.get?_push_size _ rfl
  have I2 : Inv X pins σ (upd H h'.objs.size (.frz { cls := .type "tuple", data := .seq its.toArray } (.tup ys))) { s with heap := h'.push { cls := .type "tuple", data := .seq its.toArray } } :=
    I1.laid (t' := s.toks) (fun b o e => Heap.get?_push_of_some _ e) (Nat.le_refl _) (show ObjOk X.prog X.w _ _ _ (.frz { cls := .type "tuple", data := .seq its.toArray } (.tup ys)) from ⟨hget, hz, its, r', IsTup.new _ _⟩)
  exact ⟨.ref h'.objs.size, _, I2, rfl, q _ _ (I1.hok.fresh (Nat.le_refl _)) rfl⟩
/-- x in t, data of any depth -/
def rInT (K : PySem.W.Frag) : R2 := fun x y H Q => ∃ d ds, Dp K H x d ∧ Dp K H y (.tuple ds) ∧ SeqAt.shaped d = true ∧ SeqAt.shaped (.tuple ds) = true ∧ Q (.bl (ds.any fun z => PyData.eqv z d)) H
theorem op_inT (hu : X.A.units + 65 < cLine) : OpR X (compareOp .In) (rInT X.K) := by
  intro pins s σ H x y v u Q I rx ry h
  obtain ⟨d, ds, hd, he, sd, se, q⟩ := h
  obtain ⟨as, r1⟩ := Dp.reads I d x v hd rx
  obtain ⟨bs, r2⟩ := Dp.reads I (.tuple ds) y u he ry
  exact SeqAt.in_tuple_reads r2 r1 (SeqAt.canLay_of_shaped se) (SeqAt.canLay_of_shaped sd) (room_in_shaped sd hu) ⟨.bl _, H, I, rfl, q⟩
/-- d != {} -/
def rNeE : R2 := fun x y H Q => ∃ a b ks, x = .ref a ∧ y = .ref b ∧ H a = some (.dK ks) ∧ H b = some (.dK []) ∧ Q (.bl (!ks.isEmpty)) H
theorem op_neE (hu : X.A.units < cLine) : OpR X (compareOp .NotEq) rNeE := by
  intro pins s σ H x y v u Q I rx ry h
  obtain ⟨a, b, ks, rfl, rfl, ea, eb, q⟩ := h
  obtain rfl : v = Value.ref a := rx
  obtain rfl : u = Value.ref b := ry
  obtain ⟨_, ya, va, ra, da⟩ := (show ObjOk X.prog X.w H s.heap a (.dK ks) from I.hok a _ ea)
  obtain ⟨_, yb, vb, rb, db⟩ := (show ObjOk X.prog X.w H s.heap b (.dK []) from I.hok b _ eb)
  cases rb
  cases ra with
  | nil => exact PySem.W.keq_ne (knd := mixKind X.prog X.w) (r := true) ya yb da db hu (fun _ => hits_all (ks := []) (kvs := []) .nil .nil (fun p hp => nomatch hp)) (fin_bl I q (by simp))
  | cons h t => exact PySem.W.keq_ne (knd := mixKind X.prog X.w) (r := true) ya yb da db hu (fun e => by simp at e) (fin_bl I q (by simp))
end
end Sg

set_option Elab.async false
set_option linter.all false
set_option maxRecDepth 100000
set_option maxHeartbeats 4000000
namespace Sg
open PySem PySem.Spec PyProof.Rows L2
theorem cut_head {x1 x2 x3 x4 x5 : V} {r : List V} : cutV (x1 :: x2 :: x3 :: x4 :: x5 :: r) Option.none (some 5) = [x1, x2, x3, x4, x5] := by
  unfold cutV
  rw [show HT.sIx (x1 :: x2 :: x3 :: x4 :: x5 :: r).length 0 none = 0 from HT.sIx_none _ _, show (some (5 : Int)) = some ((5 : Nat) : Int) from rfl, HT.sIx_nat]
  rw [Nat.min_eq_left (by simp only [List.length_cons]; omega)]
  rfl
theorem cut_tail {x1 x2 x3 x4 x5 : V} {r : List V} : cutV (x1 :: x2 :: x3 :: x4 :: x5 :: r) (some 5) Option.none = r := by
  unfold cutV
  rw [show HT.sIx (x1 :: x2 :: x3 :: x4 :: x5 :: r).length (x1 :: x2 :: x3 :: x4 :: x5 :: r).length none = (x1 :: x2 :: x3 :: x4 :: x5 :: r).length from HT.sIx_none _ _, show (some (5 : Int)) = some ((5 : Nat) : Int) from rfl, HT.sIx_nat]
  rw [Nat.min_eq_left (by simp only [List.length_cons]; omega)]
  show (r.take _) = r
  exact List.take_of_length_le (by simp only [List.length_cons]; omega)
theorem cut_two {x1 x2 : V} {r : List V} : cutV (x1 :: x2 :: r) Option.none (some 2) = [x1, x2] := by
  unfold cutV
  rw [show HT.sIx (x1 :: x2 :: r).length 0 none = 0 from HT.sIx_none _ _, show (some (2 : Int)) = some ((2 : Nat) : Int) from rfl, HT.sIx_nat]
  rw [Nat.min_eq_left (by simp only [List.length_cons]; omega)]
  rfl
def answD (k : Str) (o : Int) : PyData := if k = "mark" then .none else if strIn k ["snap", "register"] = true then .tuple [.str "ok", .int o] else .tuple [.str "ok", .none]
def spFieldsOf (K : PySem.W.Frag) : Sp := fun vs H Q _ => ∃ (a : Addr) (x1 x2 x3 x4 x5 : V) (ys : List V), vs = [.ref a] ∧ SqT K H a (x1 :: x2 :: x3 :: x4 :: x5 :: ys) ∧ ∀ p H', Same H H' → SqT K H' p ys → Q (.ref p) H'
/-- the answer of a record, as data -/
def spAnswerOf (K : PySem.W.Frag) : Sp := fun vs H Q _ => ∃ (a : Addr) (o : Int) (k : Str) (r : List V), vs = [.ref a] ∧ SqT K H a (.int o :: .str k :: r) ∧ ∀ v H', Same H H' → Dp K H' v (answD k o) → Q v H'
/-! ### records and their effects, as data -/
inductive Bd
  | mark (d : PyData) | make (n z : Int) | remove (n : Int) | write (n p v : Int) | trim (n p : Int) | snap (n : Int) | drop (n s : Int) | register (n : Int)
  | leave (n : Int) (held : Bool) | reserve (n : Int) (w : Str) | release (n : Int) | preempt (n v : Int) (w : Option Str)
structure Rc where
  o : Int
  h : Int
  s : Int
  c : Int
  b : Bd
def wayD : Option Str → PyData
  | none => .none
  | some w => .str w
def kindS : Bd → Str
  | .mark _ => "mark" | .make _ _ => "make" | .remove _ => "remove" | .write _ _ _ => "write" | .trim _ _ => "trim" | .snap _ => "snap" | .drop _ _ => "drop" | .register _ => "register"
  | .leave _ _ => "leave" | .reserve _ _ => "reserve" | .release _ => "release" | .preempt _ _ _ => "preempt"
def fldD : Bd → List PyData
  | .mark d => [d] | .make n z => [.int n, .int z] | .remove n => [.int n] | .write n p v => [.int n, .int p, .int v] | .trim n p => [.int n, .int p] | .snap n => [.int n] | .drop n s => [.int n, .int s] | .register n => [.int n]
  | .leave n b => [.int n, .bool b] | .reserve n w => [.int n, .str w] | .release n => [.int n] | .preempt n v w => [.int n, .int v, wayD w]
abbrev Ef := List Key × PyData
def effB (o h : Int) : Bd → List Ef
  | .mark d => [([.inr "told", .inl h], d)]
  | .make n z => [([.inr "space", .inl n], .int z)]
  | .remove n => [([.inr "gone", .inl n], .int o)]
  | .write n p v => [([.inr "place", .inl n, .inl p], .int v)]
  | .trim n p => [([.inr "place", .inl n, .inl p], .none)]
  | .snap n => [([.inr "snap", .inl n, .inl o], .int o)]
  | .drop n s => [([.inr "snap", .inl n, .inl s], .none)]
  | .register n => [([.inr "key", .inl n, .inl h], .int o)]
  | .leave n false => [([.inr "key", .inl n, .inl h], .none)]
  | .leave n true => [([.inr "key", .inl n, .inl h], .none), ([.inr "hold", .inl n], .none)]
  | .reserve n w => [([.inr "hold", .inl n], .tuple [.int h, .str w])]
  | .release n => [([.inr "hold", .inl n], .none)]
  | .preempt n v none => [([.inr "key", .inl n, .inl v], .none)]
  | .preempt n v (some w) => [([.inr "key", .inl n, .inl v], .none), ([.inr "hold", .inl n], .tuple [.int h, .str w])]
def effH (r : Rc) : Ef := ([.inr "host", .inl r.h], .tuple [.int r.s, .int r.c, answD (kindS r.b) r.o])
def effR (r : Rc) : List Ef := effH r :: effB r.o r.h r.b
def RecAt (K : PySem.W.Frag) (H : Hp) (t : Addr) (r : Rc) : Prop := ∃ ys, SqT K H t (.int r.o :: .str (kindS r.b) :: .int r.h :: .int r.s :: .int r.c :: ys) ∧ DpAll K H ys (fldD r.b)
def EffAt (K : PySem.W.Frag) (H : Hp) (p : Addr) (e : Ef) : Prop := ∃ t v, H p = some (.tup [.ref t, v]) ∧ H t = some (.tup (e.1.map kV)) ∧ Dp K H v e.2
theorem EffAt.same {K : PySem.W.Frag} {H H' : Hp} {p : Addr} {e : Ef} (h : EffAt K H p e) (s : Same H H') : EffAt K H' p e := by
  obtain ⟨t, v, a, b, c⟩ := h
  exact ⟨t, v, s _ _ a, s _ _ b, dp_same s _ _ c⟩
theorem RecAt.same {K : PySem.W.Frag} {H H' : Hp} {t : Addr} {r : Rc} (h : RecAt K H t r) (s : Same H H') : RecAt K H' t r := by
  obtain ⟨ys, a, b⟩ := h
  exact ⟨ys, SqT_same s a, dpAll_same s _ _ b⟩
theorem Paired.imp2 {α β : Type} {F G : α → β → Prop} (f : ∀ a b, F a b → G a b) : ∀ {l : List α} {m : List β}, Paired F l m → Paired G l m
  | _, _, .nil => .nil
  | _, _, .cons r t => .cons (f _ _ r) (Paired.imp2 f t)
theorem dp_int {K : PySem.W.Frag} {H : Hp} {x : V} {n : Int} (h : Dp K H x (.int n)) : x = .int n := by cases h; rfl
theorem dp_strv {K : PySem.W.Frag} {H : Hp} {x : V} {n : Str} (h : Dp K H x (.str n)) : x = .str n := by cases h; rfl
theorem dp_bool {K : PySem.W.Frag} {H : Hp} {x : V} {n : Bool} (h : Dp K H x (.bool n)) : x = .bl n := by cases h; rfl
theorem dp_none {K : PySem.W.Frag} {H : Hp} {x : V} (h : Dp K H x .none) : x = .non := by cases h; rfl
/-- one effect (topic, value) made anew -/
theorem eff_one {K : PySem.W.Frag} {σ : L2.St} {H : Hp} {tk : TA} {tv : TE} {k : List Key} {d : PyData} {Q : VK} (hn : k.length ≤ 3) (hk : ∀ R : List V → Hp → Prop, R (k.map kV) H → tk σ H R)
    (hv : ∀ H' (R : VK), Same H H' → (∀ H'' v, Same H' H'' → Dp K H'' v d → R v H'') → tv σ H' R) (q : ∀ p H', Same H H' → EffAt K H' p (k, d) → Q (.ref p) H') : tTup (tCons (tTup tk) (tCons tv tNil)) σ H Q := by
  refine hk _ ⟨by rw [List.length_map]; exact Nat.le_of_lt (small1000 (by omega)), fun t ht => ?_⟩
  have s1 := same_new (o := .tup (k.map kV)) ht
  refine hv _ _ s1 fun H2 v s2 hd => ⟨by show 2 ≤ sizeLine; decide, fun p hp => ?_⟩
  have s3 := same_new (o := .tup [V.ref t, v]) hp
  exact q p _ (s1.trans (s2.trans s3)) ⟨t, v, upd_same, s3 _ _ (s2 _ _ upd_same), dp_same s3 _ _ hd⟩
theorem eff_list1 {K : PySem.W.Frag} {σ : L2.St} {H : Hp} {te : TE} {e : Ef} {Q : VK} (h : ∀ R : VK, (∀ p H', Same H H' → EffAt K H' p e → R (.ref p) H') → te σ H R) (q : ∀ l (ps : List Addr) H', Same H H' → H' l = some (.lst (ps.map V.ref)) → Paired (EffAt K H') ps [e] → Q (.ref l) H') :
    tLst (tCons te tNil) σ H Q := by
  refine h _ fun p H1 s1 e1 => ⟨by show 1 ≤ sizeLine; decide, fun l hl => ?_⟩
  have s2 := same_new (o := .lst [V.ref p]) hl
  exact q l [p] _ (s1.trans s2) upd_same (.cons (e1.same s2) .nil)
theorem eff_list2 {K : PySem.W.Frag} {σ : L2.St} {H : Hp} {te tf : TE} {e f : Ef} {Q : VK} (h : ∀ R : VK, (∀ p H', Same H H' → EffAt K H' p e → R (.ref p) H') → te σ H R) (h2 : ∀ H1 (R : VK), Same H H1 → (∀ p H', Same H1 H' → EffAt K H' p f → R (.ref p) H') → tf σ H1 R)
    (q : ∀ l (ps : List Addr) H', Same H H' → H' l = some (.lst (ps.map V.ref)) → Paired (EffAt K H') ps [e, f] → Q (.ref l) H') : tLst (tCons te (tCons tf tNil)) σ H Q := by
  refine h _ fun p H1 s1 e1 => h2 _ _ s1 fun p2 H2 s2 e2 => ⟨by show 2 ≤ sizeLine; decide, fun l hl => ?_⟩
  have s3 := same_new (o := .lst [V.ref p, V.ref p2]) hl
  exact q l [p, p2] _ (s1.trans (s2.trans s3)) upd_same (.cons (e1.same (s2.trans s3)) (.cons (e2.same s3) .nil))
theorem mS_hit {x k : Str} {H : Hp} {Q : Option (List (Nat × V)) → Prop} (e : k = x) (h : Q (some [])) : mStr x (.str k) H Q := ⟨k, rfl, by rw [if_pos e]; exact h⟩
theorem mB_hit {b : Bool} {H : Hp} {Q : Option (List (Nat × V)) → Prop} (h : Q (some [])) : mBool b (.bl b) H Q := ⟨b, rfl, by rw [if_pos rfl]; exact h⟩
theorem mB_miss {b c : Bool} {H : Hp} {Q : Option (List (Nat × V)) → Prop} (e : ¬ c = b) (h : Q none) : mBool b (.bl c) H Q := ⟨c, rfl, by rw [if_neg e]; exact h⟩
theorem mN_hit {H : Hp} {Q : Option (List (Nat × V)) → Prop} (h : Q (some [])) : mNone .non H Q := by unfold mNone; rw [if_pos rfl]; exact h
theorem mN_miss {v : V} {H : Hp} {Q : Option (List (Nat × V)) → Prop} (e : ¬ v = .non) (h : Q none) : mNone v H Q := by unfold mNone; rw [if_neg e]; exact h
theorem fld_len (b : Bd) : (fldD b).length ≤ 3 := by cases b <;> simp [fldD]
/-! ### skipping a case -/
theorem skip {K : PySem.W.Frag} {n : Nat} {x k : Str} {u : TPts} {tb : TS} {rest : TCs} {a : Addr} {ys : List V} {D : Ends} {σ : L2.St} {H : Hp} (hs : SqT K H a (.str k :: ys)) (hne : ¬ k = x) (h : rest (.ref a) D σ H) : cCons (mSeq K n (mCons (mStr x) u)) tb rest (.ref a) D σ H := by
  refine ⟨a, _, rfl, hs, fun _ => ⟨_, _, rfl, k, rfl, ?_⟩, fun _ => h⟩
  rw [if_neg hne]; exact h
def spEffKind (K : PySem.W.Frag) : Sp := fun vs H Q _ => ∃ (o h : Int) (p : Addr) (b : Bd) (ys : List V), vs = [.int o, .str (kindS b), .int h, .ref p] ∧ SqT K H p ys ∧ DpAll K H ys (fldD b) ∧
  ∀ l (ps : List Addr) H', Same H H' → H' l = some (.lst (ps.map V.ref)) → Paired (EffAt K H') ps (effB o h b) → Q (.ref l) H'
def spEffects (K : PySem.W.Frag) : Sp := fun vs H Q _ => ∃ (t : Addr) (r : Rc), vs = [.ref t] ∧ RecAt K H t r ∧
  ∀ l (ps : List Addr) H', Same H H' → H' l = some (.lst (ps.map V.ref)) → Paired (EffAt K H') ps (effR r) → Q (.ref l) H'
section
variable {P : Program} {wrl : World} {K : PySem.W.Frag} {mg : Str → Option Value} {base : Heap} {f fA fE fF aK aF : Addr} {fd fdA fdE fdF : FuncData}
abbrev EKN : List Str := ["order","kind","host","fields","told","namespace","size","place","content","snapshot","way","victim"]
theorem scEffKind : FnScope EKN ["order", "kind", "host", "fields"] (defScope sEffKind) := ⟨rfl, rfl, rfl, by decide +kernel, rfl, by decide +kernel, by decide +kernel⟩
theorem ok_effKind (F : Fun K "_effects_of_kind" "_effects_of_kind" sEffKind f fd) : FnOk P wrl K mg base CX0 1 f fd ["order", "kind", "host", "fields"] (spEffKind K) := by
  refine F.ok scEffKind (fun vs H Q E h => ?_) (fun cdv A outer s H vs Q E hr h => ?_)
  · obtain ⟨o, h, p, b, ys, rfl, _⟩ := h
    rfl
  · obtain ⟨o, h, p, b, ys, rfl, hp, hd, q⟩ := h
    refine ⟨_, (pss_one (ps_match (pe_tup (pa_cons (pv 1) (StX.pa_star (pv 3) pa_nil))) (pcs_cons scEffKind.nd (mp_seq (n := 2) rfl (mps_cons mp_str (mps_cons (mp_cap (i := 4) rfl (Or.inl rfl)) mps_nil)))
        (pss_one (ps_ret (pe_lst (pa_cons (pe_tup (pa_cons (pe_tup (pa_cons pe_str (pa_cons (pv 2) pa_nil))) (pa_cons (pv 4) pa_nil))) pa_nil))))
        (pcs_cons scEffKind.nd (mp_seq (n := 3) rfl (mps_cons mp_str (mps_cons (mp_cap (i := 5) rfl (Or.inl rfl)) (mps_cons (mp_cap (i := 6) rfl (Or.inl rfl)) mps_nil))))
        (pss_one (ps_ret (pe_lst (pa_cons (pe_tup (pa_cons (pe_tup (pa_cons pe_str (pa_cons (pv 5) pa_nil))) (pa_cons (pv 6) pa_nil))) pa_nil))))
        (pcs_cons scEffKind.nd (mp_seq (n := 2) rfl (mps_cons mp_str (mps_cons (mp_cap (i := 5) rfl (Or.inl rfl)) mps_nil)))
        (pss_one (ps_ret (pe_lst (pa_cons (pe_tup (pa_cons (pe_tup (pa_cons pe_str (pa_cons (pv 5) pa_nil))) (pa_cons (pv 0) pa_nil))) pa_nil))))
        (pcs_cons scEffKind.nd (mp_seq (n := 4) rfl (mps_cons mp_str (mps_cons (mp_cap (i := 5) rfl (Or.inl rfl)) (mps_cons (mp_cap (i := 7) rfl (Or.inl rfl)) (mps_cons (mp_cap (i := 8) rfl (Or.inl rfl)) mps_nil)))))
        (pss_one (ps_ret (pe_lst (pa_cons (pe_tup (pa_cons (pe_tup (pa_cons pe_str (pa_cons (pv 5) (pa_cons (pv 7) pa_nil)))) (pa_cons (pv 8) pa_nil))) pa_nil))))
        (pcs_cons scEffKind.nd (mp_seq (n := 3) rfl (mps_cons mp_str (mps_cons (mp_cap (i := 5) rfl (Or.inl rfl)) (mps_cons (mp_cap (i := 7) rfl (Or.inl rfl)) mps_nil))))
        (pss_one (ps_ret (pe_lst (pa_cons (pe_tup (pa_cons (pe_tup (pa_cons pe_str (pa_cons (pv 5) (pa_cons (pv 7) pa_nil)))) (pa_cons pe_non pa_nil))) pa_nil))))
        (pcs_cons scEffKind.nd (mp_seq (n := 2) rfl (mps_cons mp_str (mps_cons (mp_cap (i := 5) rfl (Or.inl rfl)) mps_nil)))
        (pss_one (ps_ret (pe_lst (pa_cons (pe_tup (pa_cons (pe_tup (pa_cons pe_str (pa_cons (pv 5) (pa_cons (pv 0) pa_nil)))) (pa_cons (pv 0) pa_nil))) pa_nil))))
        (pcs_cons scEffKind.nd (mp_seq (n := 3) rfl (mps_cons mp_str (mps_cons (mp_cap (i := 5) rfl (Or.inl rfl)) (mps_cons (mp_cap (i := 9) rfl (Or.inl rfl)) mps_nil))))
        (pss_one (ps_ret (pe_lst (pa_cons (pe_tup (pa_cons (pe_tup (pa_cons pe_str (pa_cons (pv 5) (pa_cons (pv 9) pa_nil)))) (pa_cons pe_non pa_nil))) pa_nil))))
        (pcs_cons scEffKind.nd (mp_seq (n := 2) rfl (mps_cons mp_str (mps_cons (mp_cap (i := 5) rfl (Or.inl rfl)) mps_nil)))
        (pss_one (ps_ret (pe_lst (pa_cons (pe_tup (pa_cons (pe_tup (pa_cons pe_str (pa_cons (pv 5) (pa_cons (pv 2) pa_nil)))) (pa_cons (pv 0) pa_nil))) pa_nil))))
        (pcs_cons scEffKind.nd (mp_seq (n := 3) rfl (mps_cons mp_str (mps_cons (mp_cap (i := 5) rfl (Or.inl rfl)) (mps_cons mp_bool mps_nil))))
        (pss_one (ps_ret (pe_lst (pa_cons (pe_tup (pa_cons (pe_tup (pa_cons pe_str (pa_cons (pv 5) (pa_cons (pv 2) pa_nil)))) (pa_cons pe_non pa_nil))) pa_nil))))
        (pcs_cons scEffKind.nd (mp_seq (n := 3) rfl (mps_cons mp_str (mps_cons (mp_cap (i := 5) rfl (Or.inl rfl)) (mps_cons mp_bool mps_nil))))
        (pss_one (ps_ret (pe_lst (pa_cons (pe_tup (pa_cons (pe_tup (pa_cons pe_str (pa_cons (pv 5) (pa_cons (pv 2) pa_nil)))) (pa_cons pe_non pa_nil))) (pa_cons (pe_tup (pa_cons (pe_tup (pa_cons pe_str (pa_cons (pv 5) pa_nil))) (pa_cons pe_non pa_nil))) pa_nil)))))
        (pcs_cons scEffKind.nd (mp_seq (n := 3) rfl (mps_cons mp_str (mps_cons (mp_cap (i := 5) rfl (Or.inl rfl)) (mps_cons (mp_cap (i := 10) rfl (Or.inl rfl)) mps_nil))))
        (pss_one (ps_ret (pe_lst (pa_cons (pe_tup (pa_cons (pe_tup (pa_cons pe_str (pa_cons (pv 5) pa_nil))) (pa_cons (pe_tup (pa_cons (pv 2) (pa_cons (pv 10) pa_nil))) pa_nil))) pa_nil))))
        (pcs_cons scEffKind.nd (mp_seq (n := 2) rfl (mps_cons mp_str (mps_cons (mp_cap (i := 5) rfl (Or.inl rfl)) mps_nil)))
        (pss_one (ps_ret (pe_lst (pa_cons (pe_tup (pa_cons (pe_tup (pa_cons pe_str (pa_cons (pv 5) pa_nil))) (pa_cons pe_non pa_nil))) pa_nil))))
        (pcs_cons scEffKind.nd (mp_seq (n := 4) rfl (mps_cons mp_str (mps_cons (mp_cap (i := 5) rfl (Or.inl rfl)) (mps_cons (mp_cap (i := 11) rfl (Or.inl rfl)) (mps_cons mp_none mps_nil)))))
        (pss_one (ps_ret (pe_lst (pa_cons (pe_tup (pa_cons (pe_tup (pa_cons pe_str (pa_cons (pv 5) (pa_cons (pv 11) pa_nil)))) (pa_cons pe_non pa_nil))) pa_nil))))
        (pcs_cons scEffKind.nd (mp_seq (n := 4) rfl (mps_cons mp_str (mps_cons (mp_cap (i := 5) rfl (Or.inl rfl)) (mps_cons (mp_cap (i := 11) rfl (Or.inl rfl)) (mps_cons (mp_cap (i := 10) rfl (Or.inl rfl)) mps_nil)))))
        (pss_one (ps_ret (pe_lst (pa_cons (pe_tup (pa_cons (pe_tup (pa_cons pe_str (pa_cons (pv 5) (pa_cons (pv 11) pa_nil)))) (pa_cons pe_non pa_nil))) (pa_cons (pe_tup (pa_cons (pe_tup (pa_cons pe_str (pa_cons (pv 5) pa_nil))) (pa_cons (pe_tup (pa_cons (pv 2) (pa_cons (pv 10) pa_nil))) pa_nil))) pa_nil)))))
        pcs_nil)))))))))))))))), ?_⟩
    refine ⟨_, rfl, _, rfl, p, ys, rfl, .inl hp, Nat.le_of_lt (small1000 (by have := fld_len b; have := dpAll_len hd; simp only [List.append_nil, List.length_cons]; omega)), fun t ht => ?_⟩
    rw [List.append_nil]
    have s1 := same_new (o := .tup (.str (kindS b) :: ys)) ht
    have hs : SqT K (upd H t (.tup (.str (kindS b) :: ys))) t (.str (kindS b) :: ys) := SqT.of upd_same
    generalize upd H t (.tup (.str (kindS b) :: ys)) = H1 at s1 hs
    show cCons _ _ _ _ _ _ _
    cases b with
    | mark d =>
      obtain ⟨x1, r1, rfl, e1, b1⟩ := dpAll_cons hd
      obtain rfl := dpAll_nil b1
      refine ⟨t, _, rfl, hs, fun _ => ⟨_, _, rfl, mS_hit rfl ?_⟩, fun z => absurd rfl z⟩
      refine ⟨_, _, rfl, ?_⟩
      exact eff_list1 (fun R r => eff_one (by show 2 ≤ 3; decide) (fun S z => ⟨_, rfl, z⟩) (fun H' S sm z => ⟨_, rfl, z _ _ (Same.refl _) (dp_same (s1.trans sm) _ _ e1)⟩) r) (fun l ps H' s' hl pr => q l ps H' (s1.trans s') hl pr)
    | make n z =>
      obtain ⟨x1, r1, rfl, e1, b1⟩ := dpAll_cons hd
      obtain rfl := dp_int e1
      obtain ⟨x2, r2, rfl, e2, b2⟩ := dpAll_cons b1
      obtain rfl := dp_int e2
      obtain rfl := dpAll_nil b2
      refine skip hs (by dsimp only [kindS]; decide) ?_
      refine ⟨t, _, rfl, hs, fun _ => ⟨_, _, rfl, mS_hit rfl ?_⟩, fun z => absurd rfl z⟩
      refine ⟨_, _, rfl, _, _, rfl, ?_⟩
      exact eff_list1 (fun R r => eff_one (by show 2 ≤ 3; decide) (fun S z => ⟨_, rfl, z⟩) (fun H' S sm z => ⟨_, rfl, z _ _ (Same.refl _) (.int _)⟩) r) (fun l ps H' s' hl pr => q l ps H' (s1.trans s') hl pr)
    | remove n =>
      obtain ⟨x1, r1, rfl, e1, b1⟩ := dpAll_cons hd
      obtain rfl := dp_int e1
      obtain rfl := dpAll_nil b1
      refine skip hs (by dsimp only [kindS]; decide) ?_
      refine skip hs (by dsimp only [kindS]; decide) ?_
      refine ⟨t, _, rfl, hs, fun _ => ⟨_, _, rfl, mS_hit rfl ?_⟩, fun z => absurd rfl z⟩
      refine ⟨_, _, rfl, ?_⟩
      exact eff_list1 (fun R r => eff_one (by show 2 ≤ 3; decide) (fun S z => ⟨_, rfl, z⟩) (fun H' S sm z => ⟨_, rfl, z _ _ (Same.refl _) (.int _)⟩) r) (fun l ps H' s' hl pr => q l ps H' (s1.trans s') hl pr)
    | write n p v =>
      obtain ⟨x1, r1, rfl, e1, b1⟩ := dpAll_cons hd
      obtain rfl := dp_int e1
      obtain ⟨x2, r2, rfl, e2, b2⟩ := dpAll_cons b1
      obtain rfl := dp_int e2
      obtain ⟨x3, r3, rfl, e3, b3⟩ := dpAll_cons b2
      obtain rfl := dp_int e3
      obtain rfl := dpAll_nil b3
      refine skip hs (by dsimp only [kindS]; decide) ?_
      refine skip hs (by dsimp only [kindS]; decide) ?_
      refine skip hs (by dsimp only [kindS]; decide) ?_
      refine ⟨t, _, rfl, hs, fun _ => ⟨_, _, rfl, mS_hit rfl ?_⟩, fun z => absurd rfl z⟩
      refine ⟨_, _, rfl, _, _, rfl, _, _, rfl, ?_⟩
      exact eff_list1 (fun R r => eff_one (by show 3 ≤ 3; decide) (fun S z => ⟨_, rfl, _, rfl, z⟩) (fun H' S sm z => ⟨_, rfl, z _ _ (Same.refl _) (.int _)⟩) r) (fun l ps H' s' hl pr => q l ps H' (s1.trans s') hl pr)
    | trim n p =>
      obtain ⟨x1, r1, rfl, e1, b1⟩ := dpAll_cons hd
      obtain rfl := dp_int e1
      obtain ⟨x2, r2, rfl, e2, b2⟩ := dpAll_cons b1
      obtain rfl := dp_int e2
      obtain rfl := dpAll_nil b2
      refine skip hs (by dsimp only [kindS]; decide) ?_
      refine skip hs (by dsimp only [kindS]; decide) ?_
      refine skip hs (by dsimp only [kindS]; decide) ?_
      refine skip hs (by dsimp only [kindS]; decide) ?_
      refine ⟨t, _, rfl, hs, fun _ => ⟨_, _, rfl, mS_hit rfl ?_⟩, fun z => absurd rfl z⟩
      refine ⟨_, _, rfl, _, _, rfl, ?_⟩
      exact eff_list1 (fun R r => eff_one (by show 3 ≤ 3; decide) (fun S z => ⟨_, rfl, _, rfl, z⟩) (fun H' S sm z => z _ _ (Same.refl _) .non) r) (fun l ps H' s' hl pr => q l ps H' (s1.trans s') hl pr)
    | snap n =>
      obtain ⟨x1, r1, rfl, e1, b1⟩ := dpAll_cons hd
      obtain rfl := dp_int e1
      obtain rfl := dpAll_nil b1
      refine skip hs (by dsimp only [kindS]; decide) ?_
      refine skip hs (by dsimp only [kindS]; decide) ?_
      refine skip hs (by dsimp only [kindS]; decide) ?_
      refine skip hs (by dsimp only [kindS]; decide) ?_
      refine skip hs (by dsimp only [kindS]; decide) ?_
      refine ⟨t, _, rfl, hs, fun _ => ⟨_, _, rfl, mS_hit rfl ?_⟩, fun z => absurd rfl z⟩
      refine ⟨_, _, rfl, ?_⟩
      exact eff_list1 (fun R r => eff_one (by show 3 ≤ 3; decide) (fun S z => ⟨_, rfl, _, rfl, z⟩) (fun H' S sm z => ⟨_, rfl, z _ _ (Same.refl _) (.int _)⟩) r) (fun l ps H' s' hl pr => q l ps H' (s1.trans s') hl pr)
    | drop n s =>
      obtain ⟨x1, r1, rfl, e1, b1⟩ := dpAll_cons hd
      obtain rfl := dp_int e1
      obtain ⟨x2, r2, rfl, e2, b2⟩ := dpAll_cons b1
      obtain rfl := dp_int e2
      obtain rfl := dpAll_nil b2
      refine skip hs (by dsimp only [kindS]; decide) ?_
      refine skip hs (by dsimp only [kindS]; decide) ?_
      refine skip hs (by dsimp only [kindS]; decide) ?_
      refine skip hs (by dsimp only [kindS]; decide) ?_
      refine skip hs (by dsimp only [kindS]; decide) ?_
      refine skip hs (by dsimp only [kindS]; decide) ?_
      refine ⟨t, _, rfl, hs, fun _ => ⟨_, _, rfl, mS_hit rfl ?_⟩, fun z => absurd rfl z⟩
      refine ⟨_, _, rfl, _, _, rfl, ?_⟩
      exact eff_list1 (fun R r => eff_one (by show 3 ≤ 3; decide) (fun S z => ⟨_, rfl, _, rfl, z⟩) (fun H' S sm z => z _ _ (Same.refl _) .non) r) (fun l ps H' s' hl pr => q l ps H' (s1.trans s') hl pr)
    | register n =>
      obtain ⟨x1, r1, rfl, e1, b1⟩ := dpAll_cons hd
      obtain rfl := dp_int e1
      obtain rfl := dpAll_nil b1
      refine skip hs (by dsimp only [kindS]; decide) ?_
      refine skip hs (by dsimp only [kindS]; decide) ?_
      refine skip hs (by dsimp only [kindS]; decide) ?_
      refine skip hs (by dsimp only [kindS]; decide) ?_
      refine skip hs (by dsimp only [kindS]; decide) ?_
      refine skip hs (by dsimp only [kindS]; decide) ?_
      refine skip hs (by dsimp only [kindS]; decide) ?_
      refine ⟨t, _, rfl, hs, fun _ => ⟨_, _, rfl, mS_hit rfl ?_⟩, fun z => absurd rfl z⟩
      refine ⟨_, _, rfl, ?_⟩
      exact eff_list1 (fun R r => eff_one (by show 3 ≤ 3; decide) (fun S z => ⟨_, rfl, _, rfl, z⟩) (fun H' S sm z => ⟨_, rfl, z _ _ (Same.refl _) (.int _)⟩) r) (fun l ps H' s' hl pr => q l ps H' (s1.trans s') hl pr)
    | leave n held =>
      obtain ⟨x1, r1, rfl, e1, b1⟩ := dpAll_cons hd
      obtain rfl := dp_int e1
      obtain ⟨x2, r2, rfl, e2, b2⟩ := dpAll_cons b1
      obtain rfl := dp_bool e2
      obtain rfl := dpAll_nil b2
      refine skip hs (by dsimp only [kindS]; decide) ?_
      refine skip hs (by dsimp only [kindS]; decide) ?_
      refine skip hs (by dsimp only [kindS]; decide) ?_
      refine skip hs (by dsimp only [kindS]; decide) ?_
      refine skip hs (by dsimp only [kindS]; decide) ?_
      refine skip hs (by dsimp only [kindS]; decide) ?_
      refine skip hs (by dsimp only [kindS]; decide) ?_
      refine skip hs (by dsimp only [kindS]; decide) ?_
      cases held with
      | false =>
        refine ⟨t, _, rfl, hs, fun _ => ⟨_, _, rfl, mS_hit rfl ?_⟩, fun z => absurd rfl z⟩
        refine ⟨_, _, rfl, _, _, rfl, mB_hit ?_⟩
        exact eff_list1 (fun R r => eff_one (k := [.inr "key", .inl n, .inl h]) (d := .none) (by show 3 ≤ 3; decide) (fun S z => ⟨_, rfl, _, rfl, z⟩) (fun H' S sm z => z _ _ (Same.refl _) .non) r) (fun l ps H' s' hl pr => q l ps H' (s1.trans s') hl pr)
      | true =>
        refine ⟨t, _, rfl, hs, fun _ => ⟨_, _, rfl, mS_hit rfl ?_⟩, fun z => absurd rfl z⟩
        refine ⟨_, _, rfl, _, _, rfl, mB_miss (by decide) ?_⟩
        refine ⟨t, _, rfl, hs, fun _ => ⟨_, _, rfl, mS_hit rfl ?_⟩, fun z => absurd rfl z⟩
        refine ⟨_, _, rfl, _, _, rfl, mB_hit ?_⟩
        exact eff_list2 (fun R r => eff_one (k := [.inr "key", .inl n, .inl h]) (d := .none) (by show 3 ≤ 3; decide) (fun S z => ⟨_, rfl, _, rfl, z⟩) (fun H' S sm z => z _ _ (Same.refl _) .non) r) (fun H1 R s2 r => eff_one (k := [.inr "hold", .inl n]) (d := .none) (by show 2 ≤ 3; decide) (fun S z => ⟨_, rfl, z⟩) (fun H' S sm z => z _ _ (Same.refl _) .non) r) (fun l ps H' s' hl pr => q l ps H' (s1.trans s') hl pr)
    | reserve n w =>
      obtain ⟨x1, r1, rfl, e1, b1⟩ := dpAll_cons hd
      obtain rfl := dp_int e1
      obtain ⟨x2, r2, rfl, e2, b2⟩ := dpAll_cons b1
      obtain rfl := dp_strv e2
      obtain rfl := dpAll_nil b2
      refine skip hs (by dsimp only [kindS]; decide) ?_
      refine skip hs (by dsimp only [kindS]; decide) ?_
      refine skip hs (by dsimp only [kindS]; decide) ?_
      refine skip hs (by dsimp only [kindS]; decide) ?_
      refine skip hs (by dsimp only [kindS]; decide) ?_
      refine skip hs (by dsimp only [kindS]; decide) ?_
      refine skip hs (by dsimp only [kindS]; decide) ?_
      refine skip hs (by dsimp only [kindS]; decide) ?_
      refine skip hs (by dsimp only [kindS]; decide) ?_
      refine skip hs (by dsimp only [kindS]; decide) ?_
      refine ⟨t, _, rfl, hs, fun _ => ⟨_, _, rfl, mS_hit rfl ?_⟩, fun z => absurd rfl z⟩
      refine ⟨_, _, rfl, _, _, rfl, ?_⟩
      exact eff_list1 (fun R r => eff_one (by show 2 ≤ 3; decide) (fun S z => ⟨_, rfl, z⟩) (fun H' S sm z => ⟨_, rfl, _, rfl, by show 2 ≤ sizeLine; decide, fun u hu => z _ _ (same_new hu) (.tup (SqT.of upd_same) (.cons (.int _) (.cons (.str _) .nil)))⟩) r) (fun l ps H' s' hl pr => q l ps H' (s1.trans s') hl pr)
    | release n =>
      obtain ⟨x1, r1, rfl, e1, b1⟩ := dpAll_cons hd
      obtain rfl := dp_int e1
      obtain rfl := dpAll_nil b1
      refine skip hs (by dsimp only [kindS]; decide) ?_
      refine skip hs (by dsimp only [kindS]; decide) ?_
      refine skip hs (by dsimp only [kindS]; decide) ?_
      refine skip hs (by dsimp only [kindS]; decide) ?_
      refine skip hs (by dsimp only [kindS]; decide) ?_
      refine skip hs (by dsimp only [kindS]; decide) ?_
      refine skip hs (by dsimp only [kindS]; decide) ?_
      refine skip hs (by dsimp only [kindS]; decide) ?_
      refine skip hs (by dsimp only [kindS]; decide) ?_
      refine skip hs (by dsimp only [kindS]; decide) ?_
      refine skip hs (by dsimp only [kindS]; decide) ?_
      refine ⟨t, _, rfl, hs, fun _ => ⟨_, _, rfl, mS_hit rfl ?_⟩, fun z => absurd rfl z⟩
      refine ⟨_, _, rfl, ?_⟩
      exact eff_list1 (fun R r => eff_one (by show 2 ≤ 3; decide) (fun S z => ⟨_, rfl, z⟩) (fun H' S sm z => z _ _ (Same.refl _) .non) r) (fun l ps H' s' hl pr => q l ps H' (s1.trans s') hl pr)
    | preempt n v w =>
      cases w with
      | none =>
        obtain ⟨x1, r1, rfl, e1, b1⟩ := dpAll_cons hd
        obtain rfl := dp_int e1
        obtain ⟨x2, r2, rfl, e2, b2⟩ := dpAll_cons b1
        obtain rfl := dp_int e2
        obtain ⟨x3, r3, rfl, e3, b3⟩ := dpAll_cons b2
        obtain rfl := dp_none e3
        obtain rfl := dpAll_nil b3
        refine skip hs (by dsimp only [kindS]; decide) ?_
        refine skip hs (by dsimp only [kindS]; decide) ?_
        refine skip hs (by dsimp only [kindS]; decide) ?_
        refine skip hs (by dsimp only [kindS]; decide) ?_
        refine skip hs (by dsimp only [kindS]; decide) ?_
        refine skip hs (by dsimp only [kindS]; decide) ?_
        refine skip hs (by dsimp only [kindS]; decide) ?_
        refine skip hs (by dsimp only [kindS]; decide) ?_
        refine skip hs (by dsimp only [kindS]; decide) ?_
        refine skip hs (by dsimp only [kindS]; decide) ?_
        refine skip hs (by dsimp only [kindS]; decide) ?_
        refine skip hs (by dsimp only [kindS]; decide) ?_
        refine ⟨t, _, rfl, hs, fun _ => ⟨_, _, rfl, mS_hit rfl ?_⟩, fun z => absurd rfl z⟩
        refine ⟨_, _, rfl, _, _, rfl, _, _, rfl, mN_hit ?_⟩
        exact eff_list1 (fun R r => eff_one (k := [.inr "key", .inl n, .inl v]) (d := .none) (by show 3 ≤ 3; decide) (fun S z => ⟨_, rfl, _, rfl, z⟩) (fun H' S sm z => z _ _ (Same.refl _) .non) r) (fun l ps H' s' hl pr => q l ps H' (s1.trans s') hl pr)
      | some w =>
        obtain ⟨x1, r1, rfl, e1, b1⟩ := dpAll_cons hd
        obtain rfl := dp_int e1
        obtain ⟨x2, r2, rfl, e2, b2⟩ := dpAll_cons b1
        obtain rfl := dp_int e2
        obtain ⟨x3, r3, rfl, e3, b3⟩ := dpAll_cons b2
        obtain rfl := dp_strv e3
        obtain rfl := dpAll_nil b3
        refine skip hs (by dsimp only [kindS]; decide) ?_
        refine skip hs (by dsimp only [kindS]; decide) ?_
        refine skip hs (by dsimp only [kindS]; decide) ?_
        refine skip hs (by dsimp only [kindS]; decide) ?_
        refine skip hs (by dsimp only [kindS]; decide) ?_
        refine skip hs (by dsimp only [kindS]; decide) ?_
        refine skip hs (by dsimp only [kindS]; decide) ?_
        refine skip hs (by dsimp only [kindS]; decide) ?_
        refine skip hs (by dsimp only [kindS]; decide) ?_
        refine skip hs (by dsimp only [kindS]; decide) ?_
        refine skip hs (by dsimp only [kindS]; decide) ?_
        refine skip hs (by dsimp only [kindS]; decide) ?_
        refine ⟨t, _, rfl, hs, fun _ => ⟨_, _, rfl, mS_hit rfl ?_⟩, fun z => absurd rfl z⟩
        refine ⟨_, _, rfl, _, _, rfl, _, _, rfl, mN_miss (fun z => nomatch z) ?_⟩
        refine ⟨t, _, rfl, hs, fun _ => ⟨_, _, rfl, mS_hit rfl ?_⟩, fun z => absurd rfl z⟩
        refine ⟨_, _, rfl, _, _, rfl, _, _, rfl, ?_⟩
        exact eff_list2 (fun R r => eff_one (k := [.inr "key", .inl n, .inl v]) (d := .none) (by show 3 ≤ 3; decide) (fun S z => ⟨_, rfl, _, rfl, z⟩) (fun H' S sm z => z _ _ (Same.refl _) .non) r) (fun H1 R s2 r => eff_one (k := [.inr "hold", .inl n]) (d := .tuple [.int h, .str w]) (by show 2 ≤ 3; decide) (fun S z => ⟨_, rfl, z⟩) (fun H' S sm z => ⟨_, rfl, _, rfl, by show 2 ≤ sizeLine; decide, fun u hu => z _ _ (same_new hu) (.tup (SqT.of upd_same) (.cons (.int _) (.cons (.str _) .nil)))⟩) r) (fun l ps H' s' hl pr => q l ps H' (s1.trans s') hl pr)
end
section
variable {P : Program} {wrl : World} {K : PySem.W.Frag} {mg : Str → Option Value} {base : Heap} {f fA fE fF : Addr} {fd fdA fdE fdF : FuncData}
theorem scFieldsOf : FnScope ["record"] ["record"] (defScope sFieldsOf) := ⟨rfl, rfl, rfl, by decide +kernel, rfl, by decide +kernel, by decide +kernel⟩
theorem ok_fieldsOf (F : Fun K "fields_of" "fields_of" sFieldsOf f fd) (hH : ∃ t, mg "HEAD" = some (Value.int 5 t)) : FnOk P wrl K mg base CX0 1 f fd ["record"] (spFieldsOf K) := by
  obtain ⟨t0, hHd⟩ := hH
  refine F.ok scFieldsOf (fun vs H Q E h => ?_) (fun cdv A outer s H vs Q E hr h => ?_)
  · obtain ⟨a, x1, x2, x3, x4, x5, ys, rfl, _⟩ := h
    rfl
  · obtain ⟨a, x1, x2, x3, x4, x5, ys, rfl, hs, q⟩ := h
    refine ⟨_, pss_one (ps_ret (pe_slice sl_any (pv 0) (po_some (pe_glob (v := .int 5) (by rfl) hHd ⟨_, rfl⟩)) po_none)), ?_⟩
    refine ⟨_, rfl, 5, rfl, a, _, rfl, hs, fun p H' s' hp => ?_⟩
    rw [cut_tail] at hp
    exact q p H' s' hp
theorem scAnswerOf : FnScope ["record", "order", "kind"] ["record"] (defScope sAnswerOf) := ⟨rfl, rfl, rfl, by decide +kernel, rfl, by decide +kernel, by decide +kernel⟩
theorem ok_answerOf (F : Fun K "answer_of" "answer_of" sAnswerOf f fd) : FnOk P wrl K mg base CX0 1 f fd ["record"] (spAnswerOf K) := by
  refine F.ok scAnswerOf (fun vs H Q E h => ?_) (fun cdv A outer s H vs Q E hr h => ?_)
  · obtain ⟨a, o, k, r, rfl, _⟩ := h
    rfl
  · obtain ⟨a, o, k, r, rfl, hs, q⟩ := h
    refine ⟨_, pss_cons (ps_asg (pe_slice sl_any (pv 0) po_none (po_some pe_int)) (pg_tup (by rfl) (pgs_cons (pg_name (i := 1) scAnswerOf.nd rfl (Or.inl rfl)) (pgs_cons (pg_name (i := 2) scAnswerOf.nd rfl (Or.inl rfl)) L2.pgs_nil))))
      (pss_cons (ps_if (pt_cmpR op_eq (pv 2) pe_str (nomark _)) (pss_one (ps_ret pe_non)) pss_nil)
      (pss_cons (ps_if (pt_cmpR op_in_seq (pv 2) (pe_tup (pa_cons pe_str (pa_cons pe_str pa_nil))) (by rfl)) (pss_one (ps_ret (pe_tup (pa_cons pe_str (pa_cons (pv 1) pa_nil))))) pss_nil)
      (pss_one (ps_ret (pe_tup (pa_cons pe_str (pa_cons pe_non pa_nil))))))), ?_⟩
    refine ⟨_, rfl, 2, rfl, a, _, rfl, hs, fun p H1 s1 hp => ?_⟩
    rw [cut_two] at hp
    refine ⟨p, _, rfl, hp, rfl, _, _, rfl, _, _, rfl, rfl, ?_⟩
    refine ⟨_, rfl, rfl, _, rfl, ?_⟩
    by_cases hk : k = "mark"
    · subst hk
      rw [str_eqT]
      refine iteT ?_
      exact q .non H1 s1 .non
    · rw [str_eqF hk]
      refine iteF ⟨_, rfl, by show 2 ≤ sizeLine; decide, fun tt htt => ?_⟩
      have s2 := same_new (o := .tup [.str "snap", .str "register"]) htt
      have e : inV (.str k) ((["snap", "register"] : List Str).map V.str) = strIn k ["snap", "register"] := inV_str
      refine ⟨tt, _, rfl, .inr (SqT.of upd_same), rfl, rfl, _, rfl, ?_⟩
      have e' : inV (.str k) [.str "snap", .str "register"] = strIn k ["snap", "register"] := e
      rw [e']
      cases hin : strIn k ["snap", "register"] with
      | true =>
        refine iteT ⟨_, rfl, by show 2 ≤ sizeLine; decide, fun t ht => ?_⟩
        refine q (.ref t) _ (s1.trans (s2.trans (same_new ht))) ?_
        unfold answD
        rw [if_neg hk, if_pos hin]
        exact .tup (SqT.of upd_same) (.cons (.str _) (.cons (.int _) .nil))
      | false =>
        refine iteF ⟨by show 2 ≤ sizeLine; decide, fun t ht => ?_⟩
        refine q (.ref t) _ (s1.trans (s2.trans (same_new ht))) ?_
        unfold answD
        rw [if_neg hk, if_neg (by rw [hin]; exact Bool.false_ne_true)]
        exact .tup (SqT.of upd_same) (.cons (.str _) (.cons .non .nil))
end
/-- a list of effects; one effect -/
def LE (K : PySem.W.Frag) (te : TE) (σ : L2.St) (H : Hp) (es : List Ef) : Prop := ∀ Q : VK, (∀ l (ps : List Addr) H', Same H H' → H' l = some (.lst (ps.map V.ref)) → Paired (EffAt K H') ps es → Q (.ref l) H') → te σ H Q
def EE (K : PySem.W.Frag) (te : TE) (σ : L2.St) (H : Hp) (e : Ef) : Prop := ∀ Q : VK, (∀ p H', Same H H' → EffAt K H' p e → Q (.ref p) H') → te σ H Q
section
variable {K : PySem.W.Frag} {σ : L2.St} {H : Hp} {te ta tb : TE} {es fs : List Ef} {e : Ef}
theorem LE.one (h : EE K te σ H e) : LE K (tLst (tCons te tNil)) σ H [e] := fun Q q => eff_list1 h q
theorem LE.var {i : Nat} {l : Addr} {ps : List Addr} (hσ : σ[i]? = some (some (.ref l))) (hl : H l = some (.lst (ps.map V.ref))) (pr : Paired (EffAt K H) ps es) : LE K (tVar i) σ H es := fun Q q => ⟨_, hσ, q l ps H (Same.refl H) hl pr⟩
theorem paired_append {α β : Type} {F : α → β → Prop} : ∀ {a c : List α} {b d : List β}, Paired F a b → Paired F c d → Paired F (a ++ c) (b ++ d)
  | _, _, _, _, .nil, h => h
  | _, _, _, _, .cons r t, h => .cons r (paired_append t h)
theorem LE.cat (h1 : LE K ta σ H es) (h2 : ∀ H', Same H H' → LE K tb σ H' fs) (hn : es.length + fs.length ≤ 100) : LE K (tOp rCat ta tb) σ H (es ++ fs) := fun Q q => by
  refine h1 _ fun l ps H1 s1 hl p1 => h2 H1 s1 _ fun l2 ps2 H2 s2 hl2 p2 => ?_
  have n1 := p1.length
  have n2 := p2.length
  refine ⟨l, l2, _, _, rfl, rfl, s2 _ _ hl, hl2, by rw [List.length_map, List.length_map]; exact Nat.le_of_lt (small1000 (by omega)), fun p hp => ?_⟩
  rw [← List.map_append]
  have s3 := same_new (o := .lst ((ps ++ ps2).map V.ref)) hp
  exact q p _ _ (s1.trans (s2.trans s3)) upd_same (paired_append (Paired.imp2 (fun _ _ z => z.same (s2.trans s3)) p1) (Paired.imp2 (fun _ _ z => z.same s3) p2))
theorem EE.of {tk : TA} {tv : TE} {k : List Key} {d : PyData} (hn : k.length ≤ 3) (hk : ∀ R : List V → Hp → Prop, R (k.map kV) H → tk σ H R)
    (hv : ∀ H' (R : VK), Same H H' → (∀ H'' v, Same H' H'' → Dp K H'' v d → R v H'') → tv σ H' R) : EE K (tTup (tCons (tTup tk) (tCons tv tNil))) σ H (k, d) := fun Q q => eff_one hn hk hv q
end
theorem stSet0 {te : TE} {i : Nat} {r : TS} {D : Ends} {σ : L2.St} {H : Hp} {v : V} (h : ∀ Q : VK, Q v H → te σ H Q) (k : r D (σ.set i (some v)) H) : tSeq (tAsg te (gName i)) r D σ H := h _ k
theorem seqE {K : PySem.W.Frag} {te : TE} {i : Nat} {r : TS} {D : Ends} {σ : L2.St} {H : Hp} {e : Ef} (h : EE K te σ H e) (k : ∀ p H', Same H H' → EffAt K H' p e → r D (σ.set i (some (.ref p))) H') : tSeq (tAsg te (gName i)) r D σ H := h _ k
theorem seqL {K : PySem.W.Frag} {te : TE} {i : Nat} {r : TS} {D : Ends} {σ : L2.St} {H : Hp} {es : List Ef} (h : LE K te σ H es) (k : ∀ l (ps : List Addr) H', Same H H' → H' l = some (.lst (ps.map V.ref)) → Paired (EffAt K H') ps es → r D (σ.set i (some (.ref l))) H') : tSeq (tAsg te (gName i)) r D σ H := h _ k
theorem ifStrF {i : Nat} {k x : Str} {t r : TS} {D : Ends} {σ : L2.St} {H : Hp} (hσ : σ[i]? = some (some (.str k))) (h : ¬ k = x) (n : r D σ H) : tSeq (tIfS (tTest (tOp rEq (tVar i) (tC (.str x)))) t tNext) r D σ H := by
  refine ⟨_, hσ, rfl, _, rfl, ?_⟩
  rw [decide_eq_false (show ¬ V.str k = V.str x from fun z => h (by cases z; rfl))]
  exact iteF n
theorem ifStrT {i : Nat} {x : Str} {t u r : TS} {D : Ends} {σ : L2.St} {H : Hp} (hσ : σ[i]? = some (some (.str x))) (n : t { D with nx := r D } σ H) : tSeq (tIfS (tTest (tOp rEq (tVar i) (tC (.str x)))) t u) r D σ H := by
  refine ⟨_, hσ, rfl, _, rfl, ?_⟩
  rw [decide_eq_true rfl]
  exact iteT n
def spLAnswer0 (K : PySem.W.Frag) : Sp := fun vs H Q _ => ∃ (t : Addr) (r : Rc), vs = [.ref t] ∧ RecAt K H t r ∧ ∀ v H', Same H H' → Dp K H' v (answD (kindS r.b) r.o) → Q v H'
section
variable {P : Program} {wrl : World} {K : PySem.W.Frag} {mg : Str → Option Value} {base : Heap} {f fA fE fF aK aF : Addr} {fd fdA fdE fdF : FuncData}
theorem scEffects : FnScope ["record","order","kind","host","session","counter","first"] ["record"] (defScope sEffects) := ⟨rfl, rfl, rfl, by decide +kernel, rfl, by decide +kernel, by decide +kernel⟩
theorem ok_effects (F : Fun K "effects" "effects" sEffects f fd) (hH : ∃ t, mg "HEAD" = some (Value.int 5 t)) (GA : Def P wrl K mg base CX0 "answer_of" 1 ["record"] (spAnswerOf K) fA fdA) (GE : Def P wrl K mg base CX0 "_effects_of_kind" 1 ["order", "kind", "host", "fields"] (spEffKind K) fE fdE)
    (GF : Def P wrl K mg base CX0 "fields_of" 1 ["record"] (spFieldsOf K) fF fdF) : FnOk P wrl K mg base CX0 2 f fd ["record"] (spEffects K) := by
  obtain ⟨t0, hHd⟩ := hH
  refine F.ok scEffects (fun vs H Q E h => ?_) (fun cdv A outer s H vs Q E hr h => ?_)
  · obtain ⟨t, r, rfl, _⟩ := h
    rfl
  · obtain ⟨t, r, rfl, ⟨ys, hs, hd⟩, q⟩ := h
    have hr1 : Room 1 _ := hr.mono (by decide)
    refine ⟨_, (pss_cons (ps_asg (pe_slice sl_any (pv 0) po_none (po_some (pe_glob (v := .int 5) (by rfl) hHd ⟨_, rfl⟩))) (pg_tup (by rfl) (pgs_cons (pg_name (i := 1) scEffects.nd rfl (Or.inl rfl)) (pgs_cons (pg_name (i := 2) scEffects.nd rfl (Or.inl rfl)) (pgs_cons (pg_name (i := 3) scEffects.nd rfl (Or.inl rfl)) (pgs_cons (pg_name (i := 4) scEffects.nd rfl (Or.inl rfl)) (pgs_cons (pg_name (i := 5) scEffects.nd rfl (Or.inl rfl)) L2.pgs_nil)))))))
      (pss_cons (ps_set (i := 6) scEffects.nd rfl (Or.inl rfl) (pe_tup (pa_cons (pe_tup (pa_cons pe_str (pa_cons (pv 3) pa_nil))) (pa_cons (pe_tup (pa_cons (pv 4) (pa_cons (pv 5) (pa_cons (pe_call GA.ok hr1 (by rfl) GA.mg GA.kp GA.bd .nil pass0 (pa_cons (pv 0) pa_nil)) pa_nil)))) pa_nil))))
      (pss_one (ps_ret (pe_op op_cat (pe_lst (pa_cons (pv 6) pa_nil)) (pe_call GE.ok hr1 (by rfl) GE.mg GE.kp GE.bd .nil pass0 (pa_cons (pv 1) (pa_cons (pv 2) (pa_cons (pv 3) (pa_cons (pe_call GF.ok hr1 (by rfl) GF.mg GF.kp GF.bd .nil pass0 (pa_cons (pv 0) pa_nil)) pa_nil)))))))))), ?_⟩
    refine ⟨_, rfl, 5, rfl, t, _, rfl, hs, fun p H1 s1 hp => ?_⟩
    rw [cut_head] at hp
    refine ⟨p, _, rfl, hp, rfl, _, _, rfl, _, _, rfl, _, _, rfl, _, _, rfl, _, _, rfl, rfl, ?_⟩
    have hs1 := SqT_same s1 hs
    dsimp only [gName]
    refine seqE (K := K) (e := effH r) (EE.of (by show 2 ≤ 3; decide) (fun S z => ⟨_, rfl, z⟩) (fun H2 S s2 z => ?_)) fun p1 H2 s2 e2 => ?_
    · refine ⟨_, rfl, _, rfl, _, rfl, t, r.o, kindS r.b, _, rfl, SqT_same s2 hs1, fun v H3 s3 hv => ⟨by show 3 ≤ sizeLine; decide, fun u hu => ?_⟩⟩
      exact z _ _ (s3.trans (same_new hu)) (.tup (SqT.of upd_same) (.cons (.int _) (.cons (.int _) (.cons (dp_same (same_new hu) _ _ hv) .nil))))
    · have s12 := s1.trans s2
      refine LE.cat (K := K) (es := [effH r]) (fs := effB r.o r.h r.b) (LE.one fun Q' q' => ⟨_, rfl, q' p1 H2 (Same.refl H2) e2⟩) (fun H3 s3 Q' q' => ?_) (by cases r with | mk o h s c b => cases b <;> simp [effB] <;> (try split) <;> simp) _ fun l ps H' s' hl pr => q l ps H' (s12.trans s') hl pr
      have s13 := s12.trans s3
      refine ⟨_, rfl, _, rfl, _, rfl, _, rfl, t, _, _, _, _, _, ys, rfl, SqT_same s13 hs, fun pf H4 s4 hpf => ?_⟩
      exact ⟨r.o, r.h, pf, r.b, ys, rfl, hpf, dpAll_same (s13.trans s4) _ _ hd, fun l ps H' s' hl pr => q' l ps H' (s4.trans s') hl pr⟩
end
end Sg

set_option Elab.async false
set_option linter.all false
set_option maxRecDepth 100000
set_option maxHeartbeats 4000000
namespace Sg
open PySem PySem.Spec PyProof.Rows L2
/-! ### data of tuples alone -/
mutual
def tupO : PyData → Bool
  | .none => true
  | .bool _ => true
  | .int _ => true
  | .str _ => true
  | .tuple ds => tupOs ds
  | _ => false
def tupOs : List PyData → Bool
  | [] => true
  | d :: ds => tupO d && tupOs ds
end
mutual
theorem dp_tk {K : PySem.W.Frag} {H H' : Hp} (s : TK H H') : ∀ (d : PyData) (x : V), tupO d = true → Dp K H x d → Dp K H' x d
  | .none, _, _, h => by cases h; exact .non
  | .bool _, _, _, h => by cases h; exact .bl _
  | .int _, _, _, h => by cases h; exact .int _
  | .str _, _, _, h => by cases h; exact .str _
  | .tuple ds, _, g, h => by
    have g' : tupOs ds = true := by simpa [tupO] using g
    cases h with
    | tup hs ha => exact .tup (sqT_tk hs s) (dpAll_tk s ds _ g' ha)
  | .list ds, _, g, _ => by simp [tupO] at g
  | .dict _, _, _, h => by cases h
theorem dpAll_tk {K : PySem.W.Frag} {H H' : Hp} (s : TK H H') : ∀ (ds : List PyData) (xs : List V), tupOs ds = true → DpAll K H xs ds → DpAll K H' xs ds
  | [], _, _, h => by cases h; exact .nil
  | d :: ds, _, g, h => by
    have g' : tupO d = true ∧ tupOs ds = true := by simpa [tupOs] using g
    cases h with
    | cons a b => exact .cons (dp_tk s d _ g'.1 a) (dpAll_tk s ds _ g'.2 b)
end
/-- good data: tuples alone, of a small depth -/
structure GD (n : Nat) (d : PyData) : Prop where
  t : tupO d = true
  l : d.canLay0 = true
  dp : d.depth ≤ n
theorem GD.sh {n : Nat} {d : PyData} (h : GD n d) (hn : n ≤ 64) : SeqAt.shaped d = true := shaped_of h.l (Nat.le_trans h.dp hn)
theorem GD.mono {n m : Nat} {d : PyData} (h : GD n d) (hn : n ≤ m) : GD m d := ⟨h.t, h.l, Nat.le_trans h.dp hn⟩
theorem gd_none {n : Nat} : GD n .none := ⟨rfl, by simp [PyData.canLay0], by simp [PyData.depth]⟩
theorem gd_int {n : Nat} {i : Int} : GD n (.int i) := ⟨rfl, by simp [PyData.canLay0], by simp [PyData.depth]⟩
theorem gd_tup3 {n : Nat} {a b c : PyData} (ha : GD n a) (hb : GD n b) (hc : GD n c) : GD (n + 1) (.tuple [a, b, c]) := by
  refine ⟨?_, ?_, ?_⟩
  · simp [tupO, tupOs, ha.t, hb.t, hc.t]
  · simp [PyData.canLay0, PyData.canLayAll0, ha.l, hb.l, hc.l]
  · have := ha.dp; have := hb.dp; have := hc.dp
    simp only [PyData.depth, PyData.depthAll]; omega
theorem gd_tup4 {n : Nat} {a b c d : PyData} (ha : GD n a) (hb : GD n b) (hc : GD n c) (hd : GD n d) : GD (n + 1) (.tuple [a, b, c, d]) := by
  refine ⟨?_, ?_, ?_⟩
  · simp [tupO, tupOs, ha.t, hb.t, hc.t, hd.t]
  · simp [PyData.canLay0, PyData.canLayAll0, ha.l, hb.l, hc.l, hd.l]
  · have := ha.dp; have := hb.dp; have := hc.dp; have := hd.dp
    simp only [PyData.depth, PyData.depthAll]; omega
theorem gd_tup2 {n : Nat} {a b : PyData} (ha : GD n a) (hb : GD n b) : GD (n + 1) (.tuple [a, b]) := by
  refine ⟨?_, ?_, ?_⟩
  · simp [tupO, tupOs, ha.t, hb.t]
  · simp [PyData.canLay0, PyData.canLayAll0, ha.l, hb.l]
  · have := ha.dp; have := hb.dp
    simp only [PyData.depth, PyData.depthAll]; omega
end Sg

set_option Elab.async false
set_option linter.all false
set_option maxRecDepth 100000
set_option maxHeartbeats 4000000
/-! sorted(d) of a dict whose keys are whole numbers, any number of them -/
namespace Sg
open PySem PySem.Spec PyProof.Rows L2
def rSortDI : List V → Hp → VK → Prop := fun vs H Q => ∃ (d : Addr) (es : List (Key × V)) (ns : List Int), vs = [.ref d] ∧ H d = some (.dK es) ∧ es.map (·.1) = ns.map Sum.inl ∧
  ∀ (ms : List Int) (l : Addr), ms.Perm ns → ms.Pairwise (· ≤ ·) → H l = none → Q (.ref l) (upd H l (.lst (ms.map V.int)))
theorem ints_of_keys {es : List (Key × Value)} {ns : List Int} {arr : Array Value} (hk : es.map (·.1) = ns.map Sum.inl) (hn : arr.toList.length = ns.length)
    (h : ∀ (j : Nat) (v : Value), arr[j]? = some v → ∃ (k : Key) (x : Value), es[j]? = some (k, x) ∧ keyIs k v = true) : IntsAre arr.toList ns := by
  refine ints_each hn fun j v e => ?_
  obtain ⟨k, x, g1, g2⟩ := h j v (by rw [← Array.getElem?_toList]; exact e)
  have g3 : (es.map (·.1))[j]? = some k := by rw [List.getElem?_map, g1]; rfl
  rw [hk, List.getElem?_map] at g3
  cases g4 : ns[j]? with
  | none => rw [g4] at g3; cases g3
  | some y =>
    rw [g4] at g3
    obtain rfl : Sum.inl y = k := Option.some.inj g3
    rcases keyIs_shape (show keyIs (Sum.inl y) v = true from g2) with ⟨i, t, a, b⟩ | ⟨i, t, a, b⟩
    · injection a with a
      exact ⟨y, t, rfl, by rw [a]; exact b⟩
    · cases a
section
variable {X : Cx}
theorem call_sortDI (hcalm : X.calm = true) : CallR X (.builtin "sorted") rSortDI := by
  intro pins s σ H vs us Q I r h
  obtain ⟨d, es, ns, rfl, hd, hns, q⟩ := h
  obtain ⟨u, rfl, ru⟩ := vals1 r
  obtain rfl : u = Value.ref d := ru
  obtain ⟨z, lo, vs, rel, dd⟩ := dk_rd I.hok (Rd.of hd)
  obtain ⟨ep, hat⟩ := dd.dictAt
  have hk : vs.map (·.1) = ns.map Sum.inl := by rw [← rel.keys]; exact hns
  have hl : vs.length = ns.length := by simpa using congrArg List.length hk
  have hz : vs.length ≤ sizeLine := by
    have := rel.length
    omega
  refine Calls.call_function_entry kind_sorted plain_sorted entry_sorted (args_sorted1 _) ?_
  unfold Builtin.«sorted»
  refine wpAny_bind (m := checkCount "sorted" 1 1 _) (wpAny_pure (wpAny_bind (PySem.W.kdu_collect (A := X.A.in1) (PySem.W.kdl_dict (knd := mixKind X.prog X.w) (kvs := vs) (ep := ep) lo) (I.ok.hd hcalm) hat hz fun h1 tk arr ke ha => ?_)))
  have hn : arr.toList.length = ns.length := by rw [Array.length_toList, ha.1, hl]
  have hi : IntsAre arr.toList ns := ints_of_keys hk hn ha.2
  have hza : arr.toList.length ≤ sizeLine := by omega
  have I1 : Inv X pins σ H { s with heap := h1, toks := tk } := I.kept ke
  refine wpAny_bind (wpAny_newList ?_ hza)
  have ho : (h1.push (seqObj "list" arr.toList.toArray 0)).get? h1.objs.size = some (seqObj "list" arr.toList.toArray 0) := by exact Heap.get?_push_size _ rfl
  show wpAny _ _ _ _ _ (Shared.mk (h1.push (seqObj "list" arr.toList.toArray 0)) s.gens s.drawn tk s.os)
  refine wpAny_bind (wpAny_holding (wpAny_call_entry slot_list_sort ⟨_, ho, rfl⟩ entry_list_sort (SrtO.list_sort_ord SrtO.swo_int ho hza (fun h2 => SrtO.ints_sortable hi h2) fun out k1 k2 => ⟨_, rfl, ?_⟩) (args_list_sort _)))
  obtain ⟨m1, m2, m3⟩ := SrtO.ints_out hi k1 k2
  obtain ⟨e', he'⟩ := sortedHeap_at (vs := arr.toList) (out := out.toArray) ho
  have hlen : ((out.map SrtO.iv).map V.int).length ≤ sizeLine := by
    have := m2.length_eq
    rw [List.length_map]
    omega
  refine wpAny_pure ⟨_, rfl, .ref h1.objs.size, upd H h1.objs.size (.lst ((out.map SrtO.iv).map V.int)), I1.laid (t' := tk) (fun b o eb => ?_) (Nat.le_refl _) ⟨hlen, out, e', vals_of_ints m1, he'⟩, rfl, q _ _ m2 m3 (I1.hok.fresh (Nat.le_refl _))⟩
  have hb := Heap.lt_size eb
  rw [sortedHeap_old (Nat.ne_of_lt hb) (Nat.lt_of_lt_of_le hb (by rw [size_push']; exact Nat.le_succ _))]
  exact Heap.get?_push_of_some _ eb
end
end Sg

set_option Elab.async false
set_option linter.all false
set_option maxRecDepth 100000
set_option maxHeartbeats 4000000
/-! [y for x in xs for y in ys(x) if ..] over lists -/
namespace Sg
open PySem PySem.Spec PyProof.Rows L2
theorem lc2_flat {K : PySem.W.Frag} {σ : L2.St} {H1 : Hp} {D a : Addr} {vs : List Nat} {j j1 : Nat} {xs : List V} {wi1 : TI} {tt1 : TT} {te : TE} {Qd : Hp → Prop} (yss : List (List V)) (f : V → Bool) (hlen : yss.length = xs.length) (hD : H1 D = Option.none) (hx : SqL K H1 a xs)
    (hw : ∀ x, wipe ((wipe σ vs).set j (some x)) vs = wipe σ vs) (hw1 : ∀ x y, wipe ((wipe ((wipe σ vs).set j (some x)) [j1]).set j1 (some y)) [j1] = wipe ((wipe σ vs).set j (some x)) [j1]) (hz : yss.flatten.length ≤ 1000)
    (hin : ∀ (i : Nat) (x : V) (ys : List V) (H' : Hp) (R : It → Hp → Prop), xs[i]? = some x → yss[i]? = some ys → Same H1 H' → (∀ b H'', Same H' H'' → (∀ H3, Same H1 H3 → SqL K H3 b ys) → R (Itl K b) H'') → wi1 ((wipe σ vs).set j (some x)) H' R)
    (ht : ∀ (i : Nat) (x y : V) (ys : List V) (H' : Hp) (Q' : Bool → Hp → Prop), xs[i]? = some x → yss[i]? = some ys → y ∈ ys → Same H1 H' → (∀ H'', Same H' H'' → Q' (f y) H'') → tt1 ((wipe ((wipe σ vs).set j (some x)) [j1]).set j1 (some y)) H' Q')
    (he : ∀ (i : Nat) (x y : V) (ys : List V) (H' : Hp) (Q' : VK), xs[i]? = some x → yss[i]? = some ys → y ∈ ys → Q' y H' → te ((wipe ((wipe σ vs).set j (some x)) [j1]).set j1 (some y)) H' Q')
    (hd : ∀ H', Same H1 H' → H' D = some (.lst (yss.flatten.filter f)) → Qd H') :
    ∃ W : Nat → Nat → Hp → Prop, (∃ m, W 0 m (upd H1 D (.lst []))) ∧ ∀ i m H, W i m H →
      ((Itl K a).stop i H ∧ Qd H) ∨ ((Itl K a).go i H ∧ ∃ Nx : Hp → Prop, (∀ H', Nx H' → ∃ m', m' < m ∧ W (i + 1) m' H') ∧ ∀ x H', (Itl K a).yld i H x H' → gName j x (wipe σ vs) H' fun σ2 H2 => wipe σ2 vs = wipe σ vs ∧ tYes σ2 H2 fun b H3 =>
        if b = true then wi1 σ2 H3 fun J1 H4 => ∃ W1 : Nat → Nat → Hp → Prop, (∃ m, W1 0 m H4) ∧ ∀ g k H, W1 g k H →
          (J1.stop g H ∧ Nx H) ∨ (J1.go g H ∧ ∃ Nx1 : Hp → Prop, (∀ H', Nx1 H' → ∃ k', k' < k ∧ W1 (g + 1) k' H') ∧ ∀ x H', J1.yld g H x H' → gName j1 x (wipe σ2 [j1]) H' fun σ3 H5 => wipe σ3 [j1] = wipe σ2 [j1] ∧ tt1 σ3 H5 fun b H6 =>
            if b = true then te σ3 H6 fun y H7 => ∃ acc, H7 D = some (.lst acc) ∧ acc.length < sizeLine ∧ Nx1 (upd H7 D (.lst (acc ++ [y]))) else Nx1 H6)
        else Nx H3) := by
  have step : ∀ (H' : Hp) (acc : List V), Same H1 H' → H' D = some (.lst acc) → ∀ zs, Same H1 (upd H' D (.lst zs)) := fun H' acc sm h zs y o hy => by
    rw [upd_ne (ne_of_none hy hD)]; exact sm _ _ hy
  have hfl : ∀ {a b : List (List V)}, (a ++ b).flatten.length = a.flatten.length + b.flatten.length := fun {a b} => by rw [List.flatten_append, List.length_append]
  refine ⟨fun i m H => m = xs.length - i ∧ i ≤ xs.length ∧ Same H1 H ∧ H D = some (.lst ((yss.take i).flatten.filter f)), ⟨xs.length, by simp, Nat.zero_le _, same_new hD, by rw [List.take_zero]; exact upd_same⟩, ?_⟩
  rintro i m H ⟨rfl, hi, sm, hDl⟩
  have sq := sm.seq hx
  by_cases hlt : i < xs.length
  · refine .inr ⟨⟨xs, xs[i], sq, by simp [hlt]⟩, fun H' => Same H1 H' ∧ H' D = some (.lst ((yss.take (i + 1)).flatten.filter f)), fun H' p => ⟨xs.length - (i + 1), by omega, rfl, hlt, p.1, p.2⟩, fun x H' y => ?_⟩
    obtain ⟨rfl, hxy⟩ := y
    have hxi := hxy xs sq
    have hyi : yss[i]? = some yss[i] := List.getElem?_eq_getElem (by omega)
    have htk : (yss.take (i + 1)).flatten = (yss.take i).flatten ++ yss[i] := by
      rw [List.take_add_one, hyi, List.flatten_append]; simp
    have htot : ((yss.take i).flatten ++ yss[i]).length ≤ 1000 := by
      rw [← htk]
      have e : yss.flatten.length = (yss.take (i + 1)).flatten.length + (yss.drop (i + 1)).flatten.length := by rw [← hfl, List.take_append_drop]
      omega
    rw [List.length_append] at htot
    refine ⟨hw _, yesIte (hin i x _ _ _ hxi hyi sm fun b H4 s4 hb => ?_)⟩
    refine ⟨fun g k H => k = yss[i].length - g ∧ g ≤ yss[i].length ∧ Same H1 H ∧ H D = some (.lst (((yss.take i).flatten ++ yss[i].take g).filter f)), ⟨yss[i].length, by simp, Nat.zero_le _, sm.trans s4, by rw [List.take_zero, List.append_nil]; exact s4 _ _ hDl⟩, ?_⟩
    rintro g k H5 ⟨rfl, hg, sm5, hD5⟩
    have sq5 := hb H5 sm5
    by_cases hgl : g < yss[i].length
    · refine .inr ⟨⟨yss[i], yss[i][g], sq5, by simp [hgl]⟩, fun H' => Same H1 H' ∧ H' D = some (.lst (((yss.take i).flatten ++ yss[i].take (g + 1)).filter f)), fun H' p => ⟨yss[i].length - (g + 1), by omega, rfl, hgl, p.1, p.2⟩, fun z H6 yz => ?_⟩
      obtain ⟨rfl, hzz⟩ := yz
      have hzg := hzz _ sq5
      have hzm := List.mem_of_getElem? hzg
      have htg : (yss.take i).flatten ++ yss[i].take (g + 1) = ((yss.take i).flatten ++ yss[i].take g) ++ [z] := by
        rw [List.take_add_one, hzg, ← List.append_assoc]; rfl
      refine ⟨hw1 _ _, ht i x z _ _ _ hxi hyi hzm sm5 fun H7 s7 => ?_⟩
      have hD7 := s7 _ _ hD5
      cases hf : f z with
      | true =>
        rw [if_pos rfl]
        refine he i x z _ _ _ hxi hyi hzm ⟨_, hD7, small1000 ?_, step H7 _ (sm5.trans s7) hD7 _, ?_⟩
        · refine Nat.le_trans (List.length_filter_le _ _) ?_
          rw [List.length_append, List.length_take]; omega
        · rw [upd_same, htg, List.filter_append]
          simp [hf]
      | false =>
        rw [if_neg Bool.false_ne_true]
        refine ⟨sm5.trans s7, ?_⟩
        rw [hD7, htg, List.filter_append]
        simp [hf]
    · have eg : g = yss[i].length := by omega
      refine .inl ⟨⟨_, sq5, by omega⟩, sm5, ?_⟩
      rw [hD5, eg, List.take_length, htk]
  · have ei : i = xs.length := by omega
    refine .inl ⟨⟨xs, sq, by omega⟩, hd H sm ?_⟩
    rw [hDl, ei, ← hlen, List.take_length]
end Sg

set_option Elab.async false
set_option linter.all false
set_option maxRecDepth 100000
set_option maxHeartbeats 4000000
namespace Sg
open PySem PySem.Spec PyProof.Rows L2
theorem hu65 {k : Nat} {A : Around} (hr : Room k A) : A.units + 65 < cLine := by have := hr.un; omega
theorem shaped_list {ds : List PyData} (h : PyData.canLayAll0 ds = true) (h' : PyData.depthAll ds ≤ 63) : SeqAt.shaped (.list ds) = true :=
  shaped_of (by simpa [PyData.canLay0] using h) (by simp only [PyData.depth]; omega)
theorem paired_at {α β : Type} {F : α → β → Prop} : ∀ {a : List α} {b : List β} {i : Nat} {x : α}, Paired F a b → a[i]? = some x → ∃ y, b[i]? = some y ∧ F x y
  | _, _, 0, _, .cons r _, h => ⟨_, rfl, by rw [← Option.some.inj h]; exact r⟩
  | _, _, i + 1, x, .cons (a := p) _ t, h => paired_at (i := i) t (by simpa using h)
/-- a record, as data -/
def recDt (r : Rc) : PyData := .tuple (.int r.o :: .str (kindS r.b) :: .int r.h :: .int r.s :: .int r.c :: fldD r.b)
structure RGood (r : Rc) : Prop where
  t : tupOs (fldD r.b) = true
  l : (recDt r).canLay0 = true
  dp : (recDt r).depth ≤ 60
theorem RGood.sh {r : Rc} (g : RGood r) : SeqAt.shaped (recDt r) = true := shaped_of g.l (Nat.le_trans g.dp (by decide))
theorem RGood.sh1 {r : Rc} (g : RGood r) : SeqAt.shaped (.list [recDt r]) = true := shaped_list (by simp only [PyData.canLayAll0, g.l, Bool.and_self]) (by have := g.dp; simp only [PyData.depthAll]; omega)
theorem RecAt.dp {K : PySem.W.Frag} {H : Hp} {t : Addr} {r : Rc} (h : RecAt K H t r) : Dp K H (.ref t) (recDt r) := by
  obtain ⟨ys, a, b⟩ := h
  exact .tup a (.cons (.int _) (.cons (.str _) (.cons (.int _) (.cons (.int _) (.cons (.int _) b)))))
theorem RecAt.tk {K : PySem.W.Frag} {H H' : Hp} {t : Addr} {r : Rc} (h : RecAt K H t r) (g : RGood r) (s : TK H H') : RecAt K H' t r := by
  obtain ⟨ys, a, b⟩ := h
  exact ⟨ys, sqT_tk a s, dpAll_tk s _ _ g.t b⟩
/-! ### each_once -/
abbrev OE := Rc × Addr × Addr
def kvE (es : List OE) : List (Key × V) := es.map fun e => (Sum.inl e.1.o, V.ref e.2.2)
theorem es_val {n : Int} {v : V} : ∀ {es : List OE}, valV (kvE es) (Sum.inl n) = some v → ∃ e ∈ es, e.1.o = n ∧ v = .ref e.2.2
  | [], h => by cases h
  | e :: es, h => by
    by_cases z : e.1.o = n
    · have e1 : valV (kvE (e :: es)) (Sum.inl n) = some (.ref e.2.2) := valV_pos (p := (Sum.inl e.1.o, V.ref e.2.2)) (by rw [z])
      rw [e1] at h
      exact ⟨e, List.mem_cons_self, z, (Option.some.inj h).symm⟩
    · have e1 : valV (kvE (e :: es)) (Sum.inl n) = valV (kvE es) (Sum.inl n) := valV_neg (p := (Sum.inl e.1.o, V.ref e.2.2)) (fun y => z (Sum.inl.inj y))
      rw [e1] at h
      obtain ⟨x, hx, a, b⟩ := es_val h
      exact ⟨x, List.mem_cons_of_mem _ hx, a, b⟩
theorem es_none {n : Int} : ∀ {es : List OE}, valV (kvE es) (Sum.inl n) = none → ∀ e ∈ es, e.1.o ≠ n
  | [], _, e, he => nomatch he
  | x :: es, h, e, he => by
    have z : ¬ x.1.o = n := fun z => by
      have e1 : valV (kvE (x :: es)) (Sum.inl n) = some (.ref x.2.2) := valV_pos (p := (Sum.inl x.1.o, V.ref x.2.2)) (by rw [z])
      rw [e1] at h; cases h
    have e1 : valV (kvE (x :: es)) (Sum.inl n) = valV (kvE es) (Sum.inl n) := valV_neg (p := (Sum.inl x.1.o, V.ref x.2.2)) (fun y => z (Sum.inl.inj y))
    rw [e1] at h
    rcases List.mem_cons.mp he with rfl | he
    · exact z
    · exact es_none h e he
theorem nodup_key {x y : OE} : ∀ {es : List OE}, (es.map (·.1.o)).Nodup → x ∈ es → y ∈ es → x.1.o = y.1.o → x = y
  | [], _, h, _, _ => nomatch h
  | e :: es, nd, hx, hy, h => by
    rw [List.map_cons, List.nodup_cons] at nd
    rcases List.mem_cons.mp hx with a | a <;> rcases List.mem_cons.mp hy with b | b
    · rw [a, b]
    · exact absurd (show e.1.o ∈ es.map (·.1.o) from List.mem_map.mpr ⟨y, b, by rw [← h, a]⟩) nd.1
    · exact absurd (show e.1.o ∈ es.map (·.1.o) from List.mem_map.mpr ⟨x, a, by rw [h, b]⟩) nd.1
    · exact nodup_key nd.2 a b h
theorem es_get {es : List OE} (nd : (es.map (·.1.o)).Nodup) {e : OE} (he : e ∈ es) : valV (kvE es) (Sum.inl e.1.o) = some (.ref e.2.2) := by
  cases h : valV (kvE es) (Sum.inl e.1.o) with
  | none => exact absurd rfl (es_none h e he)
  | some v =>
    obtain ⟨x, hx, a, b⟩ := es_val h
    have : x = e := nodup_key nd hx he a
    rw [b, this]
def eOf (es : List OE) (m : Int) : OE := (es.find? fun e => decide (e.1.o = m)).getD (⟨0, 0, 0, 0, .snap 0⟩, 0, 0)
theorem eOf_at {es : List OE} (nd : (es.map (·.1.o)).Nodup) {e : OE} (he : e ∈ es) : eOf es e.1.o = e := by
  unfold eOf
  cases h : es.find? (fun x => decide (x.1.o = e.1.o)) with
  | none =>
    have := List.find?_eq_none.mp h e he
    simp at this
  | some x =>
    have h1 := List.find?_some h
    have h2 := List.mem_of_find?_eq_some h
    exact nodup_key nd h2 he (of_decide_eq_true h1)
theorem flat_one {α β : Type} (g : α → β) : ∀ l : List α, (l.map fun m => [g m]).flatten = l.map g
  | [] => rfl
  | m :: l => by rw [List.map_cons, List.flatten_cons, flat_one g l]; rfl
theorem paired_map2 {α β γ : Type} {F : β → γ → Prop} {g : α → β} {h : α → γ} : ∀ {l : List α}, (∀ x ∈ l, F (g x) (h x)) → Paired F (l.map g) (l.map h)
  | [], _ => .nil
  | x :: l, hl => .cons (hl x List.mem_cons_self) (paired_map2 fun y hy => hl y (List.mem_cons_of_mem _ hy))
def spOnce (K : PySem.W.Frag) : Sp := fun vs H Q _ => ∃ (a : Addr) (ts : List Addr) (rs : List Rc), vs = [.ref a] ∧ SqL K H a (ts.map V.ref) ∧ Paired (RecAt K H) ts rs ∧ rs.length ≤ 1000 ∧ (∀ r ∈ rs, RGood r) ∧ (∀ x ∈ rs, ∀ y ∈ rs, x.o = y.o → x = y) ∧
  ∀ l ts' rs' H', Same H H' → H l = Option.none → H' l = some (.lst (ts'.map V.ref)) → Paired (RecAt K H') ts' rs' → rs'.Pairwise (fun x y => x.o < y.o) → (∀ r, r ∈ rs' ↔ r ∈ rs) → Q (.ref l) H'
section
variable {P : Program} {wd : World} {K : PySem.W.Frag} {mg : Str → Option Value} {base : Heap} {f : Addr} {fd : FuncData}
theorem scOnce : FnScope ["records","by_order","record","same","order"] ["records"] (defScope sOnce) := ⟨rfl, rfl, rfl, by decide +kernel, rfl, by decide +kernel, by decide +kernel⟩
theorem ok_once (F : Fun K "each_once" "each_once" sOnce f fd) (hsorted : mg "sorted" = none) : FnOk P wd K mg base CX0 1 f fd ["records"] (spOnce K) := by
  refine F.ok scOnce (fun vs H Q E h => ?_) (fun cdv A outer s H vs Q E hr h => ?_)
  · obtain ⟨a, ts, ns, rfl, _⟩ := h
    rfl
  · obtain ⟨a, ts, rs, rfl, ha, hp, hn, hg, hu, k1⟩ := h
    refine ⟨_, (pss_cons (ps_set (i := 1) scOnce.nd rfl (Or.inr rfl) pe_dnewK)
      (pss_cons (ps_for PassesOwn.never rfl (pi_list (pv 0)) (pg_name (i := 2) scOnce.nd rfl (Or.inl rfl))
      (pss_cons (ps_set (i := 3) scOnce.nd rfl (Or.inl rfl) (pe_dsetd (pv 1) (pe_ix ix_tup (pv 2) pe_int (fun _ _ => rfl)) (pe_lst pa_nil) ⟨rfl, rfl, rfl, rfl⟩))
      (pss_one (ps_if (pt_cmpR (op_notInD (hu65 hr)) (pv 2) (pv 3) (by rfl))
      (pss_one (ps_expr (pe_bm PySem.F.plainAttrs_list PySem.F.slot_list_append PySem.F.type_list_append mt_append (pv 3) (pa_cons (pv 2) pa_nil)))) pss_nil))))
      (pss_one (ps_ret (pe_lc2 (own := [("order", 4), ("record", 2)]) (g := gName 4) (g1 := gName 2) (tt := tYes) (wi1 := iList K (tDGet (tVar 1) (tVar 4))) (tt1 := tYes) (te := tVar 2) (vs1 := [2]) (by rfl) scOnce.nd (pi_list (pe_callB (call_sortDI rfl) (by rfl) hsorted (by decide +kernel) (pa_cons (pv 1) pa_nil))) (blkOk_by (own := [("order", 4), ("record", 2)]) (N := ["records", "by_order", "record", "same", "order"]) (sc := defScope sOnce) (by decide +kernel)) (by decide) (fun _ _ _ _ _ => pg_name (i := 4) scOnce.nd rfl (Or.inl rfl)) (fun _ _ _ _ _ => pts_nil) (fun _ _ _ _ _ => (pi_list (pe_dget (hu_of hr) (pv 1) (pv 4) (fun _ _ => rfl)))) (fun _ _ _ _ _ => pg_name (i := 2) scOnce.nd rfl (Or.inl rfl)) (fun _ _ _ _ _ => pts_nil) (fun _ _ _ _ _ => by exact (pv 2))))))), ?_⟩
    refine fun d hd => ?_
    have s1 := same_new (o := .dK []) hd
    have hd1 : upd H d (.dK []) d = some (.dK (kvE [])) := upd_same
    generalize upd H d (.dK []) = H1 at s1 hd1
    have hlen := hp.length
    refine ⟨_, rfl, a, rfl, ⟨_, s1.seq ha⟩, ?_⟩
    refine for_list (K := K) (a := a) (xs := ts.map V.ref) (fun i σ' H' => ∃ (v2 v3 : Option V) (es : List OE), σ' = [some (.ref a), some (.ref d), v2, v3, none] ∧ Same H H' ∧ H' d = some (.dK (kvE es)) ∧ (es.map (·.1.o)).Nodup ∧ es.length ≤ i ∧ (∀ e ∈ es, H' e.2.2 = some (.lst [.ref e.2.1]) ∧ RecAt K H' e.2.1 e.1 ∧ e.2.2 ≠ d) ∧ ∀ r, r ∈ es.map (·.1) ↔ r ∈ rs.take i)
      ⟨none, none, [], rfl, s1, hd1, List.nodup_nil, Nat.zero_le _, ⟨(by intro e h; cases h), (by intro n; simp)⟩⟩ (fun i σ' H' _ ⟨_, _, _, _, sm, _⟩ => sm.seq ha) ?_ ?_
    · rintro i x σ' H2 hx ⟨v2, v3, es, rfl, sm, hd2, nd, hel, hes, hmem⟩
      obtain ⟨t, hti, rfl⟩ := map_get hx
      obtain ⟨r, hni, htn⟩ := paired_at hp hti
      have hrm := List.mem_of_getElem? hni
      have gr := hg r hrm
      have rt : RecAt K H2 t r := htn.same sm
      obtain ⟨ys, hts, _⟩ := id rt
      have hil := (List.getElem?_eq_some_iff.mp hni).1
      have tk : ∀ m, m ∈ rs.take (i + 1) ↔ m ∈ rs.take i ∨ m = r := fun m => by
        rw [List.take_add_one, hni, List.mem_append]; simp
      refine ⟨_, rfl, d, rfl, .inl ⟨_, Rd.of hd2⟩, _, rfl, t, _, _, _, rfl, rfl, hts, atI_nat (j := 0) rfl, by show 0 ≤ sizeLine; decide, fun z hz => ?_⟩
      have s3 := same_new (o := .lst []) hz
      have hd3 := s3 _ _ hd2
      have rt3 := rt.same s3
      have hzd : z ≠ d := fun e => by rw [e, hd2] at hz; cases hz
      refine ⟨kvE es, Sum.inl r.o, hd3, rfl, ?_, fun v hv => ?_, fun hnone => ?_⟩
      · unfold kvE; rw [List.length_map]; exact small1000 (by omega)
      · obtain ⟨e, he, en, ev⟩ := es_val hv
        subst ev
        obtain ⟨g1, g2, g3⟩ := hes e he
        have hl3 := s3 _ _ g1
        have re := g2.same s3
        have er : e.1 = r := hu _ (List.mem_of_mem_take ((hmem _).mp (List.mem_map.mpr ⟨e, he, rfl⟩))) _ hrm en
        rw [er] at re
        refine ⟨_, rfl, _, rfl, _, _, rt3.dp, .lst (SqL.of hl3) (.cons re.dp .nil), gr.sh, gr.sh1, _, rfl, ?_⟩
        rw [List.any_cons, SeqAt.eqv_refl _ gr.l]
        refine iteF ⟨_, _, es, rfl, sm.trans s3, hd3, nd, by omega, fun e' he' => ⟨s3 _ _ (hes e' he').1, (hes e' he').2.1.same s3, (hes e' he').2.2⟩, fun m => ?_⟩
        rw [hmem m, tk m]
        constructor
        · exact .inl
        · rintro (h | h)
          · exact h
          · rw [h]; exact (hmem r).mp (List.mem_map.mpr ⟨e, he, er⟩)
      · have hput : putK (kvE es) (Sum.inl r.o) (V.ref z) = kvE (es ++ [(r, t, z)]) := by
          rw [putK_new _ hnone]; unfold kvE; rw [List.map_append]; rfl
        rw [hput]
        have nn := es_none hnone
        generalize hH4 : upd (upd H2 z (.lst [])) d (.dK (kvE (es ++ [(r, t, z)]))) = H4
        have k34 : ∀ b, b ≠ d → ∀ o, upd H2 z (.lst []) b = some o → H4 b = some o := fun b hb o ho => by rw [← hH4, upd_ne hb]; exact ho
        have hz4 : H4 z = some (.lst []) := k34 z hzd _ upd_same
        have hd4 : H4 d = some (.dK (kvE (es ++ [(r, t, z)]))) := by rw [← hH4, upd_same]
        have tk24 : TK H2 H4 := by
          refine (TK.of s3).trans ?_
          rw [← hH4]
          exact TK.off (xs := [d]) (Off.upd (by simp)) fun x hx => by rw [List.mem_singleton.mp hx]; exact .inr ⟨_, hd3⟩
        have rt4 := rt.tk gr tk24
        refine ⟨_, rfl, _, rfl, _, _, rt4.dp, .lst (SqL.of hz4) .nil, gr.sh, shaped_list (by simp [PyData.canLayAll0]) (by simp [PyData.depthAll]), _, rfl, ?_⟩
        refine iteT ⟨_, rfl, .inl ⟨rfl, _, SqL.of hz4⟩, _, rfl, z, [], _, rfl, rfl, hz4, by show 0 < sizeLine; decide, ?_⟩
        generalize hH5 : upd H4 z (.lst ([] ++ [V.ref t])) = H5
        have k45 : ∀ b, b ≠ z → ∀ o, H4 b = some o → H5 b = some o := fun b hb o ho => by rw [← hH5, upd_ne hb]; exact ho
        have keep : ∀ b o, H2 b = some o → b ≠ d → H5 b = some o := fun b o ho hb => k45 b (ne_of_none ho hz) _ (k34 b hb _ (s3 _ _ ho))
        have hdH : H d = Option.none := hd
        have tk25 : TK H2 H5 := by
          refine tk24.trans ?_
          rw [← hH5]
          exact TK.off (xs := [z]) (Off.upd (by simp)) fun x hx => by rw [List.mem_singleton.mp hx]; exact .inl ⟨_, hz4⟩
        refine ⟨_, _, es ++ [(r, t, z)], rfl, fun b o ho => keep b o (sm _ _ ho) (ne_of_none ho hdH), k45 d (fun e => hzd e.symm) _ hd4, ?_, ?_, fun e he => ?_, fun m => ?_⟩
        · rw [List.map_append, List.nodup_append]
          refine ⟨nd, by simp, fun p hp' q hq' => ?_⟩
          obtain ⟨e, he, rfl⟩ := List.mem_map.mp hp'
          have : q = r.o := by simpa using hq'
          rw [this]; exact nn e he
        · rw [List.length_append, List.length_singleton]; omega
        · rcases List.mem_append.mp he with he | he
          · exact ⟨keep _ _ (hes e he).1 (hes e he).2.2, (hes e he).2.1.tk (hg _ (List.mem_of_mem_take ((hmem _).mp (List.mem_map.mpr ⟨e, he, rfl⟩)))) tk25, (hes e he).2.2⟩
          · rw [List.mem_singleton.mp he]
            exact ⟨by rw [← hH5]; exact upd_same, rt.tk gr tk25, hzd⟩
        · rw [List.map_append, List.mem_append, hmem m, tk m]
          simp
    · rintro σ' H2 ⟨v2, v3, es, rfl, sm, hd2, nd, hel, hes, hmem⟩
      rw [List.length_map] at hmem hel
      rw [show ts.length = rs.length from hlen, List.take_length] at hmem
      have hes1 : es.length ≤ 1000 := by omega
      refine ⟨_, rfl, d, kvE es, es.map (·.1.o), rfl, hd2, by unfold kvE; rw [List.map_map, List.map_map]; rfl, fun ms l hperm hpw hl => ?_⟩
      have s3 := same_new (o := .lst (ms.map V.int)) hl
      have hml : ms.length = es.length := by rw [hperm.length_eq, List.length_map]
      have hin : ∀ m ∈ ms, ∃ e ∈ es, e.1.o = m := fun m hm => by
        obtain ⟨e, he, h⟩ := List.mem_map.mp (hperm.mem_iff.mp hm)
        exact ⟨e, he, h⟩
      have hlx : upd H2 l (.lst (ms.map V.int)) l = some (.lst (ms.map V.int)) := upd_same
      generalize upd H2 l (.lst (ms.map V.int)) = H3 at s3 hlx
      refine ⟨l, rfl, ⟨_, SqL.of hlx⟩, fun D hD => ?_⟩
      refine lc2_flat (ms.map fun m => [V.ref (eOf es m).2.1]) (fun _ => true) (by rw [List.length_map, List.length_map]) hD (SqL.of hlx) (fun _ => rfl) (fun _ _ => rfl) (by rw [flat_one, List.length_map]; omega) (fun i x ys H' R hx hy sm' r' => ?_) (fun i x y ys H' Q' hx hy hyy sm' q' => q' H' (Same.refl H')) (fun i x y ys H' Q' hx hy hyy q' => ⟨_, rfl, q'⟩) fun H' sm' hDl => ?_
      · obtain ⟨m, hm, rfl⟩ := map_get hx
        rw [List.getElem?_map, hm] at hy
        cases hy
        obtain ⟨e, he, rfl⟩ := hin m (List.mem_of_getElem? hm)
        dsimp only at r'
        rw [eOf_at nd he] at r'
        have s5 := s3.trans sm'
        have g := DGet.k (k := Sum.inl e.1.o) (s5 _ _ hd2)
        rw [es_get nd he] at g
        exact ⟨_, rfl, _, rfl, d, _, rfl, g, _, rfl, ⟨_, SqL.of (s5 _ _ (hes e he).1)⟩, r' _ H' (Same.refl H') fun H5 s6 => SqL.of (s6 _ _ (s3 _ _ (hes e he).1))⟩
      · have e1 : ((ms.map fun m => [V.ref (eOf es m).2.1]).flatten.filter fun _ => true) = (ms.map fun m => (eOf es m).2.1).map V.ref := by
          rw [flat_one, List.map_map, List.filter_eq_self.mpr (fun _ _ => rfl)]; rfl
        rw [e1] at hDl
        have s5 := s3.trans sm'
        have inj : ms.Pairwise (· < ·) := by
          have ndm : ms.Nodup := hperm.nodup_iff.mpr nd
          refine (hpw.and ndm).imp fun h => ?_
          obtain ⟨a, b⟩ := h
          omega
        refine k1 D (ms.map fun m => (eOf es m).2.1) (ms.map fun m => (eOf es m).1) H' (sm.trans s5) ?_ hDl (paired_map2 fun m hm => ?_) ?_ fun q => ?_
        · exact sm.free (s3.free hD)
        · obtain ⟨e, he, rfl⟩ := hin m hm
          rw [eOf_at nd he]
          exact (hes e he).2.1.same s5
        · rw [List.pairwise_map]
          refine inj.imp_of_mem fun {x y} hx hy h => ?_
          obtain ⟨e, he, rfl⟩ := hin x hx
          obtain ⟨e', he', rfl⟩ := hin y hy
          rw [eOf_at nd he, eOf_at nd he']; exact h
        · rw [← hmem q]
          constructor
          · intro h
            obtain ⟨m, hm, rfl⟩ := List.mem_map.mp h
            obtain ⟨e, he, rfl⟩ := hin m hm
            rw [eOf_at nd he]; exact List.mem_map.mpr ⟨e, he, rfl⟩
          · intro h
            obtain ⟨e, he, rfl⟩ := List.mem_map.mp h
            exact List.mem_map.mpr ⟨e.1.o, hperm.mem_iff.mpr (List.mem_map.mpr ⟨e, he, rfl⟩), by rw [eOf_at nd he]⟩
end
end Sg

set_option Elab.async false
set_option linter.all false
set_option maxRecDepth 100000
set_option maxHeartbeats 4000000
namespace Sg
open PySem PySem.Spec PyProof.Rows L2
section
variable {prog : Program} {w : World} {K : Type} [DecidableEq K] {knd : KeyKind prog w K} {A : Around} {E : Value → Shared → Prop} {s : Shared}
theorem wp_dictPut {d : Addr} {kvs : List (K × Value)} {k : K} {key v : Value} {Q : Unit → Shared → Prop} (hkey : knd.is k key = true) (hm : s.heap.DictOf knd d kvs)
    (hQ : ∀ h', h'.DictOf knd d (stored kvs k v) → Heap.SameBut d s.heap h' → Q () { s with heap := h' }) (hsz : kvs.length ≤ sizeLine) :
    wpAny (model prog w) A (dictPut d (knd.hash k) key v) Q E s := by
  obtain ⟨o, es, ep, ho, hc, hd, hk, hp, hn⟩ := hm
  have hes : es.size ≤ sizeLine := by have e1 := hp.length; have e2 : es.toList.length = es.size := by simp
                                      omega
  unfold dictPut
  refine wpAny_bind (wpAny_dictFind_of hkey ho hd hk ?_)
  have hidx : (es.findIdx? fun e => knd.is k e.key) = kvs.findIdx? fun kv => decide (kv.1 = k) := by
    rw [← hp.findIdx k]; obtain ⟨l⟩ := es; simp
  cases hi : es.findIdx? fun e => knd.is k e.key with
  | some i =>
    refine wpAny_updateDict ho hd (hQ _ ⟨_, _, ep, Heap.get?_update_self _ ho (Obj.isFreed_of_dict (Obj.data_mapDict hd _)),
      hc.mapDict _, Obj.data_mapDict hd _, hk.modify _ _, ?_, ?_⟩ (Heap.SameBut.update ..))
    · rw [stored, if_pos (any_of_findIdx_some (hidx ▸ hi))]
      have hl : (es.toList.findIdx? fun e => knd.is k e.key) = some i := by rw [← hi]; obtain ⟨l⟩ := es; simp
      have := hp.modify hn hl v
      obtain ⟨l⟩ := es
      simpa using this
    · rw [stored, if_pos (any_of_findIdx_some (hidx ▸ hi)), keys_map_store]; exact hn
  | none =>
    have hnot : k ∉ kvs.map (·.1) := not_mem_of_findIdx_none (hidx ▸ hi)
    have hany : ¬ (kvs.any fun kv => decide (kv.1 = k)) = true := by
      rw [List.any_eq_true]; rintro ⟨kv, hkv, he⟩
      exact hnot (List.mem_map.mpr ⟨kv, hkv, of_decide_eq_true he⟩)
    refine wpAny_updateDictKeys (hz := hes) ho hd (hQ _ ⟨_, _, ep + 1, Heap.get?_update_self _ ho (Obj.isFreed_of_dict (Obj.data_mapDictKeys hd _)),
      hc.mapDictKeys _, Obj.data_mapDictKeys hd _, hk.push hkey _, ?_, ?_⟩ (Heap.SameBut.update ..))
    · rw [stored, if_neg hany]
      have := hp.append hkey (knd.hash k) v
      obtain ⟨l⟩ := es
      simpa using this
    · rw [stored, if_neg hany, List.map_append, List.nodup_append]
      refine ⟨hn, by simp, ?_⟩
      intro x hx y hy
      rw [show y = k by simpa using hy]
      intro e
      exact hnot (by rw [← e]; exact hx)
theorem merge_loop {d a : Addr} {kvs more : List (K × Value)} {Q : Unit → Shared → Prop} (hda : d ≠ a) (hd : s.heap.DictOf knd d kvs) (ha : s.heap.DictOf knd a more) (hsz : kvs.length + more.length ≤ sizeLine)
    (hQ : ∀ h', h'.DictOf knd d (merged kvs more) → h'.DictOf knd a more → Heap.SameBut d s.heap h' → Q () { s with heap := h' }) :
    wpAny (model prog w) A (do
      let l ← dictEntries a
      let epoch ← dictEpoch a
      forIn (List.range l.size) PUnit.unit fun i (_ : PUnit) => (do
          let l' ← dictEntries a
          match l'[i]? with
            | some e => do
              holding [e.key, e.val] (dictPut d e.hash e.key e.val)
              let ep' ← dictEpoch a
              if (ep' != epoch) = true then do
                  (unsupported "dict.changed-during-merge" : Sem PUnit)
                  pure (ForInStep.yield PUnit.unit)
                else pure (ForInStep.yield PUnit.unit)
            | _ => do
              (unsupported "dict.changed-during-merge" : Sem PUnit)
              pure (ForInStep.yield PUnit.unit) : Sem (ForInStep PUnit))
      pure ()) Q E s := by
  obtain ⟨oo, eso, epo, hoo, hco, hdo', hko, hpo, hno⟩ := id ha
  have hlen : more.length = eso.size := by have e1 := hpo.length; have e2 : eso.toList.length = eso.size := by simp
                                           omega
  refine wpAny_bind (wpAny_dictEntries hoo hdo' ?_)
  refine wpAny_bind (wpAny_dictEpoch hoo hdo' ?_)
  refine wpAny_bind ?_
  rw [List.range_eq_range']
  refine wpAny_forIn_list _
    (fun rest _ s' => ∃ h' i, s' = { s with heap := h' } ∧ rest = List.range' i (eso.size - i) ∧ i ≤ eso.size ∧ h'.DictOf knd d (merged kvs (more.take i)) ∧ h'.get? a = some oo ∧ Heap.SameBut d s.heap h')
    _ ?_ ?_ _ _ ⟨s.heap, 0, rfl, by simp, Nat.zero_le _, by simpa [merged] using hd, hoo, Heap.SameBut.refl _ _⟩
  · rintro x rest b s' ⟨h', i, rfl, hr, hi, hd', hoo', hs'⟩
    have hlt : i < eso.size := by
      rcases Nat.lt_or_ge i eso.size with h | h
      · exact h
      · rw [Nat.sub_eq_zero_of_le h] at hr; simp at hr
    obtain ⟨rfl, hrest⟩ : x = i ∧ rest = List.range' (i + 1) (eso.size - (i + 1)) := by
      have e : eso.size - i = (eso.size - (i + 1)) + 1 := by omega
      rw [e, List.range'_succ] at hr
      injection hr with h1 h2
      exact ⟨h1, h2⟩
    refine wpAny_bind (wpAny_dictEntries hoo' hdo' ?_)
    rw [Array.getElem?_eq_getElem hlt]
    obtain ⟨kv, hkv⟩ : ∃ kv, more[x]? = some kv := ⟨more[x]'(by rw [hlen]; exact hlt), List.getElem?_eq_getElem _⟩
    obtain ⟨k, v⟩ := kv
    obtain ⟨hkey, hval⟩ := hpo.get? (e := eso[x]) (by simp [hlt]) hkv
    obtain ⟨k', hkey', hhash⟩ := hko eso[x] (Array.getElem_mem hlt)
    obtain rfl : k' = k := knd.inj _ _ _ hkey' hkey
    show wpAny _ _ (holding [eso[x].key, eso[x].val] (dictPut d eso[x].hash eso[x].key eso[x].val) >>= _) _ _ _
    rw [hhash, hval]
    have hmx : (merged kvs (more.take x)).length ≤ sizeLine := by
      have e1 := merged_length_le kvs (more.take x)
      have e2 : (more.take x).length ≤ more.length := by rw [List.length_take]; omega
      omega
    refine wpAny_bind (wpAny_holding (wp_dictPut hkey hd' (fun h'' hd'' hs'' => ?_) hmx))
    have hoo'' : h''.get? a = some oo := (hs''.2 a (Ne.symm hda)).trans hoo'
    refine wpAny_bind (wpAny_dictEpoch hoo'' hdo' ?_)
    rw [if_neg (by simp)]
    exact wpAny_pure ⟨h'', x + 1, rfl, hrest, hlt, by rw [merged_take_succ kvs more x (k', v) hkv]; exact hd'', hoo'', hs'.trans hs''⟩
  · rintro b s' ⟨h', i, rfl, hr, hi, hd', hoo', hs'⟩
    have hin : i = eso.size := by
      rcases Nat.lt_or_ge i eso.size with h | h
      · have e : eso.size - i = (eso.size - (i + 1)) + 1 := by omega
        rw [e, List.range'_succ] at hr; exact nomatch hr
      · exact Nat.le_antisymm hi h
    refine wpAny_pure (hQ h' ?_ ⟨oo, eso, epo, hoo', hco, hdo', hko, hpo, hno⟩ hs')
    rw [hin, ← hlen, List.take_length] at hd'; exact hd'
theorem wp_merge {d a : Addr} {kvs more : List (K × Value)} {Q : Unit → Shared → Prop} (hda : d ≠ a) (haS : (a == sysModules) = false) (hnr : ∀ k x, knd.is k (.ref x) = false) (hd : s.heap.DictOf knd d kvs) (ha : s.heap.DictOf knd a more) (hsz : kvs.length + more.length ≤ sizeLine)
    (hQ : ∀ h', h'.DictOf knd d (merged kvs more) → h'.DictOf knd a more → Heap.SameBut d s.heap h' → Q () { s with heap := h' }) :
    wpAny (model prog w) A (mergeMapping d (.ref a) false) Q E s := by
  unfold mergeMapping
  refine wpAny_bind (wpAny_isInstance ha.typeIs isSubtype_dict_dict ?_)
  rw [if_pos rfl]
  refine wpAny_bind (wpAny_specialOf ha.typeIs F.slot_dict_iter.lookup ?_)
  dsimp only
  refine wpAny_bind (wpAny_pure ?_)
  rw [show (some (Value.builtin "dict.__iter__") == some (Value.builtin "dict.__iter__")) = true from by decide]
  dsimp only
  rw [haS]
  simp only [Bool.false_eq_true, if_false]
  obtain ⟨od, esd, epd, hod, hcd, hdd, hkd, hpd, hnd⟩ := id hd
  obtain ⟨oo, eso, epo, hoo, hco, hdo', hko, hpo, hno⟩ := id ha
  refine wpAny_bind (wpAny_dictEntries hod hdd ?_)
  split
  · refine wpAny_bind (wpAny_dictEntries hoo hdo' ?_)
    refine wpAny_bind ?_
    rw [← Array.forIn_toList]
    refine wpAny_forIn_list _ (fun rest _ s' => s' = s ∧ ∀ e ∈ rest, e ∈ eso.toList) _ ?_ ?_ _ _ ⟨rfl, fun e h => h⟩
    · rintro e rest b s' ⟨rfl, hr⟩
      obtain ⟨k, hk, _⟩ := hko e (by simpa using hr e List.mem_cons_self)
      have : ∀ x, e.key ≠ .ref x := fun x hx => by rw [hx, hnr] at hk; cases hk
      cases hkk : e.key with
      | ref x => exact absurd hkk (this x)
      | _ => exact wpAny_pure ⟨rfl, fun y hy => hr y (List.mem_cons_of_mem _ hy)⟩
    · rintro b s' ⟨rfl, _⟩
      exact merge_loop hda hd ha hsz hQ
  · exact merge_loop hda hd ha hsz hQ
end
end Sg

set_option Elab.async false
set_option linter.all false
set_option maxRecDepth 100000
set_option maxHeartbeats 4000000
namespace Sg
open PySem PySem.Spec PyProof.Rows L2
theorem wp_display_star {v1 k v : Sem Value} {Q : Value → Shared → Prop} {M : Model} {A : Around} {E : Value → Shared → Prop} {s : Shared}
    (h : wpAny M A v1 (fun m s1 => wpAny M A (mergeMapping s.heap.objs.size m false) (fun _ s2 => wpAny M A (subDict [(k, v)]) (fun sub s3 => wpAny M A (mergeMapping s.heap.objs.size (.ref sub) false) (fun _ s4 => Q (.ref s.heap.objs.size) s4) (fun _ _ => False) s3) E s2) (fun _ _ => False) s1) E { s with heap := s.heap.push { cls := .type "dict", data := .dict #[] } }) :
    wpAny M A (dictDisplay [(none, v1), (some k, v)]) Q E s := by
  unfold dictDisplay
  simp only [List.forIn_cons, List.forIn_nil]
  refine wpAny_bind (wpAny_bind (wpAny_bind ?_))
  rw [if_pos (by rfl)]
  refine wpAny_pure ?_
  dsimp only
  refine wpAny_bind (wpAny_alloc (wpAny_bind (wpAny_holding (wpAny_mono h (fun m s1 h1 => ?_) fun _ _ e => e))))
  refine wpAny_bind (wpAny_onRaise (wpAny_tryCatch (wpAny_onRaise (wpAny_holding (wpAny_mono h1 (fun _ s2 h2 => ?_) fun _ _ h => h.elim)))))
  refine wpAny_pure ?_
  dsimp only
  refine wpAny_bind ?_
  rw [if_neg (by simp)]
  refine wpAny_pure (wpAny_pure ?_)
  dsimp only
  refine wpAny_bind ?_
  rw [if_neg (by simp)]
  refine wpAny_bind (wpAny_holding (wpAny_mono h2 (fun sub s3 h3 => ?_) fun _ _ e => e))
  refine wpAny_bind (wpAny_onRaise (wpAny_holding (wpAny_mono h3 (fun _ s4 h4 => ?_) fun _ _ h => h.elim)))
  exact wpAny_pure (wpAny_pure h4)
end Sg

set_option Elab.async false
set_option linter.all false
set_option maxRecDepth 100000
set_option maxHeartbeats 4000000
namespace Sg
open PySem PySem.Spec PyProof.Rows L2
/-! ### {**d, k: v}: the keys whole numbers and texts -/
theorem mix_noref {P : Program} {w : World} (k : Key) (x : Addr) : (mixKind P w).is k (.ref x) = false := by
  cases k <;> rfl
section
variable {X : Cx} {pins : List (Addr × Obj)} {σ : L2.St} {H : Hp} {s : Shared} {A : Around} {E : Value → Shared → Prop}
theorem d_merge {D a : Addr} {ks ls : List (Key × V)} {Q : Unit → Shared → Prop} (I : L2.Inv X pins σ H s) (hD : H D = some (.dK ks)) (ha : Rd H a (.dK ls)) (hda : D ≠ a) (hz : ks.length + ls.length ≤ sizeLine) (h : ∀ s', L2.Inv X pins σ (upd H D (.dK (mergeK ks ls))) s' → Q () s') :
    wpAny (model X.prog X.w) A (mergeMapping D (.ref a) false) Q E s := by
  obtain ⟨z, hd, vs, rel, dd⟩ := dk_of I.hok hD
  obtain ⟨z', hs', ws, rel', dd'⟩ := dk_rd I.hok ha
  have l1 := rel.length
  have l2 := rel'.length
  have hl := length_mergeK ls ks
  refine wp_merge hda hs' mix_noref dd dd' (by omega) fun h' d1 d2 hs => h _ ?_
  have he : ∃ q, h'.get? D = some q := let ⟨q, _, _, hq, _⟩ := d1; ⟨q, hq⟩
  exact d_write I (by rw [hD]; exact True.intro) hs he (dk_new (by omega) hd (rel'.merge rel) d1)
end
def tDStar (t1 tk tv : TE) : TE := fun σ H Q => ∀ D, H D = none → t1 σ (upd H D (.dK [])) fun x H1 => ∃ a ls, x = .ref a ∧ Rd H1 a (.dK ls) ∧ D ≠ a ∧ H1 D = some (.dK []) ∧ ls.length < sizeLine ∧
  ∀ S, (upd H1 D (.dK (mergeK [] ls))) S = none → tk σ (upd (upd H1 D (.dK (mergeK [] ls))) S (.dK [])) fun y H2 => tv σ H2 fun z H3 => ∃ k, y = kV k ∧ H3 D = some (.dK (mergeK [] ls)) ∧ H3 S = some (.dK []) ∧ D ≠ S ∧
    Q (.ref D) (upd (upd H3 S (.dK [(k, z)])) D (.dK (putK (mergeK [] ls) k z)))
section
variable {X : Cx} {e1 k v : Expr} {t1 tk tv : TE} {pos : Pos}
theorem pe_dstar (h1 : PE X e1 t1) (hk : PE X k tk) (hv : PE X v tv) : PE X (.Dict [none, some k] [e1, v] pos) (tDStar t1 tk tv) := by
  refine ⟨fun pins s σ H Q I q => ?_⟩
  rw [arm_eval_Dict]
  refine wpAny_bind (wpAny_standAt ?_)
  have hn := I.hok.fresh (Nat.le_refl s.heap.objs.size)
  have I1 := I.laid (a := s.heap.objs.size) (o := .dK []) (h' := s.heap.push { cls := .type "dict", data := .dict #[] }) (t' := s.toks) (fun _ _ q => Heap.get?_push_of_some _ q) (Nat.le_refl _) (dk_empty s.heap I.big)
  refine wp_display_star (v1 := do let x ← eval e1 X.env; standAt pos; pure x) (k := eval k X.env) (v := do let x ← eval v X.env; standAt pos; pure x) ?_
  refine wpAny_bind (thn (h1.run pins _ σ _ _ I1 (q _ hn)) fun u s1 ⟨x, H1, I2, rx, a, ls, ex, ha, hda, hD, hz, q2⟩ => ?_)
  refine wpAny_bind (wpAny_standAt (wpAny_pure ?_))
  subst ex
  obtain rfl : u = Value.ref a := rx
  refine d_merge I2 hD ha hda (by simp only [List.length_nil]; omega) fun s2 I3 => ?_
  have hS := I3.hok.fresh (Nat.le_refl s2.heap.objs.size)
  have I4 := I3.laid (a := s2.heap.objs.size) (o := .dK []) (h' := s2.heap.push { cls := .type "dict", data := .dict #[] }) (t' := s2.toks) (fun _ _ q => Heap.get?_push_of_some _ q) (Nat.le_refl _) (dk_empty s2.heap I3.big)
  have q3 := q2 _ hS
  refine wpAny_subDict (knd := mixKind X.prog X.w) (by simp) ?_
  refine wpAny_bind (thn (hk.run pins _ σ _ _ I4 q3) fun kv s3 ⟨y, H2, I5, ry, q4⟩ => ?_)
  refine wpAny_bind (wpAny_holding (wpAny_bind (thn (hv.run pins _ σ _ _ I5 q4) fun vv s4 ⟨z, H3, I6, rz, kk, ey, hD3, hS3, hne, q5⟩ => wpAny_bind (wpAny_standAt (wpAny_pure ?_)))))
  refine wpAny_bind (wpAny_holding (wpAny_pure (wpAny_pure ?_)))
  subst ey
  obtain ⟨_, hd, vs0, r0, dd⟩ := dk_of I6.hok hS3
  cases r0
  have rk : KV [(kk, z)] [(kk, vv)] := .cons ⟨rfl, rz⟩ .nil
  refine ⟨[(kk, vv)], ⟨kV_is ry, rfl, True.intro⟩, dd, fun h' dd' hs => ?_⟩
  have he : ∃ q, h'.get? s2.heap.objs.size = some q := let ⟨q, _, _, hq, _⟩ := dd'; ⟨q, hq⟩
  have I7 := d_write (t' := s4.toks + 1) I6 (by rw [hS3]; exact True.intro) hs he (dk_new (kvs := [(kk, z)]) (by rw [sizeLine_eq]; simp) hd rk dd')
  have hlm := length_mergeK ls []
  have hne' : s.heap.objs.size ≠ s2.heap.objs.size := hne
  refine d_merge I7 (D := s.heap.objs.size) (a := s2.heap.objs.size) (ks := mergeK [] ls) (ls := [(kk, z)]) (by rw [upd_ne hne']; exact hD3) (.inl upd_same) hne' (by simp only [List.length_nil, List.length_cons] at *; omega) fun s5 I8 => ?_
  exact ⟨.ref s.heap.objs.size, _, I8, rfl, q5⟩
end
end Sg

set_option Elab.async false
set_option linter.all false
set_option maxRecDepth 100000
set_option maxHeartbeats 4000000
namespace Sg
open PySem PySem.Spec PyProof.Rows L2
/-! ### a dict comprehension, the keys of either kind -/
section
variable {X : Cx} {pins : List (Addr × Obj)} {σ : L2.St} {H H' : Hp} {s : Shared}
theorem d_compSet {D : Addr} {y v : V} {u r : Value} {E : Value → Shared → Prop} {Q : Unit → Shared → Prop} (hu : X.A.units < cLine) (I : L2.Inv X pins σ H s) (g : DPut H D y v H') (ry : RelV y u) (rv : RelV v r) (h : ∀ s', L2.Inv X pins σ H' s' → Q () s') :
    wpAny (model X.prog X.w) X.A (dictSet D u r) Q E s := by
  rcases g with ⟨kvs, k, e, ey, l, eH⟩ | ⟨kvs, k, b, e, ey, eb, l, eH⟩
  · subst ey eH
    exact d_dictSet I e l ry rv h
  · subst ey eH
    obtain rfl : u = Value.ref b := ry
    obtain ⟨z, hd, xs, rel, dd⟩ := dt_of I.hok e
    have lx := Paired.length rel
    have lp := length_putK kvs k v
    refine wpAny_dictSet_heap (hsz := by omega) hu (key_of I.hok eb) dd fun h' dd' hs => h _ ?_
    obtain ⟨o, es, ep, ho, r2, r3, r4, _, r5⟩ := dd'
    refine d_write I (by rw [e]; exact True.intro) hs ⟨o, ho⟩ ⟨by omega, hd, _, (rel.put k eb rv).keeps fun c ys ec => ?_, o, es, ep, ho, r2, r3, r4, r5⟩
    rw [upd_ne (ne_of ec e fun w => nomatch w)]; exact ec
end
/-- an empty dict, whichever keys it will have -/
def EmD (o : HO) : Prop := o = .dK [] ∨ o = .dT []
theorem EmD.mut {o : HO} (h : EmD o) : Mut (some o) := by rcases h with rfl | rfl <;> exact True.intro
/-- one turn of the loop: the state behind it (hN) or the walk's end (hE) -/
abbrev DcTurn (J : It) (g : TG) (tt : TT) (tk tv : TE) (σ : L2.St) (vs : List Nat) (D : Addr) (W : Nat → Nat → Hp → Prop) (Qd : Hp → Prop) : Prop := ∀ i m H, W i m H →
  (J.stop i H ∧ Qd H) ∨ (J.go i H ∧ ∃ Nx : Hp → Prop, (∀ H', Nx H' → ∃ m', m' < m ∧ W (i + 1) m' H') ∧ ∀ x H', J.yld i H x H' → g x (wipe σ vs) H' fun σ2 H2 => wipe σ2 vs = wipe σ vs ∧ tt σ2 H2 fun b H3 =>
    if b = true then tk σ2 H3 fun y H4 => tv σ2 H4 fun z H5 => ∃ H6, DPut H5 D y z H6 ∧ Nx H6 else Nx H3)
def tDcP (wi : TI) (g : TG) (tt : TT) (tk tv : TE) (vs : List Nat) : TE := fun σ H Q => wi σ H fun J H1 => ∀ D, H1 D = none → ∃ o, EmD o ∧ ∃ W : Nat → Nat → Hp → Prop, (∃ m, W 0 m (upd H1 D o)) ∧ DcTurn J g tt tk tv σ vs D W fun H => Q (.ref D) H
/-- the things that a block of a comprehension is given -/
structure DcIn (X : Cx) (kx vx tg : Expr) (ifs : List Expr) (scope : Scope) (g : TG) (tt : TT) (tk tv : TE) : Prop where
  g : ∀ (s : Shared) (H : Hp) (C : Addr) (cl : List (Str × Addr)) (fp : List Addr), PG (X.blk s H scope (compEnvC scope cl C X.env) fp) tg g
  t : ∀ (s : Shared) (H : Hp) (C : Addr) (cl : List (Str × Addr)) (fp : List Addr), PTs (X.blk s H scope (compEnvC scope cl C X.env) fp) ifs tt
  k : ∀ (s : Shared) (H : Hp) (C : Addr) (cl : List (Str × Addr)) (fp : List Addr), PE (X.blk s H scope (compEnvC scope cl C X.env) fp) kx tk
  v : ∀ (s : Shared) (H : Hp) (C : Addr) (cl : List (Str × Addr)) (fp : List Addr), PE (X.blk s H scope (compEnvC scope cl C X.env) fp) vx tv
section
variable {X : Cx}
theorem laid_em {pins : List (Addr × Obj)} {σ : L2.St} {H : Hp} {s : Shared} {o : HO} (I : L2.Inv X pins σ H s) (ho : EmD o) : L2.Inv X pins σ (upd H s.heap.objs.size o) { s with heap := s.heap.push { cls := .type "dict", data := .dict #[] } } := by
  refine I.laid (t' := s.toks) (fun b u e => Heap.get?_push_of_some _ e) (Nat.le_refl _) ?_
  rcases ho with rfl | rfl
  · exact dk_empty s.heap I.big
  · exact dt_empty s.heap I.big
end
end Sg

set_option Elab.async false
set_option linter.all false
set_option maxRecDepth 100000
set_option maxHeartbeats 4000000
namespace Sg
open PySem PySem.Spec PyProof.Rows L2
/-! ### the loop of such a comprehension's block, then the whole -/
section
variable {X : Cx}
theorem dcp_loop {s0 : Shared} {H0 : Hp} {scope : Scope} {ce : Env} {fp : List Addr} {kx vx tg iter : Expr} {ifs : List Expr} {pos : Pos} {g : TG} {tt : TT} {tk tv : TE} {it D : Addr} {J : It} {tn : Nat → Heap → Prop} {σ : L2.St} {vs : List Nat} {W : Nat → Nat → Hp → Prop} {Qd : Hp → Prop} {R : Result → Shared → Prop}
    (hc : X.calm = true) (hu : X.A.units < cLine) (T : Turn X.prog X.w X.K tg J fp it tn) (pg : PG (X.blk s0 H0 scope ce fp) tg g) (pt : PTs (X.blk s0 H0 scope ce fp) ifs tt) (pk : PE (X.blk s0 H0 scope ce fp) kx tk) (pv : PE (X.blk s0 H0 scope ce fp) vx tv)
    (turn : DcTurn J g tt tk tv σ vs D W Qd) (hR : ∀ H s, L2.Inv (X.blk s0 H0 scope ce fp) [] (wipe σ vs) H s → Qd H → R (.ok .next) s)
    {H : Hp} {s : Shared} {m : Nat} (I : L2.Inv (X.blk s0 H0 scope ce fp) [] (wipe σ vs) H s) (ht : tn 0 s.heap) (hf : ∀ b ∈ fp, H b = none) (hW : W 0 m H) :
    codeAny (model X.prog X.w) X.A (.compLoop (.DictComp kx vx [⟨tg, iter, ifs, 0⟩] scope pos) 0 (.ref it) (.ref D) ce) R s := by
  have good : ∀ {τ : L2.St} {G : Hp} {u : Shared}, L2.Inv (X.blk s0 H0 scope ce fp) [] τ G u → (∀ b ∈ fp, G b = none) → ∀ b ∈ fp, FpOk (X.blk s0 H0 scope ce fp) [] G b := fun {τ G u} I' n b hb => by
    have q := I'.ok.exf b hb
    refine ⟨n b hb, q.1, I'.ok.exfs b hb, .inl hb, fun x c e => q.2 x c e, fun p hp => ?_⟩
    rcases List.mem_append.mp hp with z | z <;> cases z
  refine compLoop_anyD (fun n u => ∃ i G, L2.Inv (X.blk s0 H0 scope ce fp) [] (wipe σ vs) G u ∧ tn i u.heap ∧ (∀ b ∈ fp, G b = none) ∧ W i n G) (fun n u hu' => ?_) m ⟨0, H, I, ht, hf, hW⟩
  obtain ⟨i, G, J1, t1, f1, w1⟩ := hu'
  rcases turn i n G w1 with ⟨st, qd⟩ | ⟨go, Nx, nx, step⟩
  · refine thnF (T.done (X.blk s0 H0 scope ce fp) rfl rfl rfl hc i [] u _ G (fun _ _ => False) J1 (good J1 f1) t1 st) fun r u1 ⟨er, J2⟩ => ?_
    subst er
    exact hR G u1 J2 qd
  · refine thnF (T.item (X.blk s0 H0 scope ce fp) rfl rfl rfl hc i [] u _ G (fun _ _ => False) J1 (good J1 f1) t1 go) fun r u1 ⟨a, er, h1⟩ => ?_
    subst er
    refine thnF h1 fun _ u2 ⟨x, G2, J2, rx, y2, t2, f2⟩ => ?_
    have J2p := J2.pinned (good J2 f2) (T.obj _ _ t2)
    have back : ∀ {τ : L2.St} {G' : Hp} {u' : Shared}, L2.Inv (X.blk s0 H0 scope ce fp) ([] ++ pinsAt fp u2.heap) τ G' u' → wipe τ vs = wipe σ vs → Nx G' → ∃ n', n' < n ∧ ∃ i G, L2.Inv (X.blk s0 H0 scope ce fp) [] (wipe σ vs) G u' ∧ tn i u'.heap ∧ (∀ b ∈ fp, G b = none) ∧ W i n' G := fun {τ G' u'} J' ew q => by
      obtain ⟨n', lt, w'⟩ := nx G' q
      have at' : ∀ b ∈ fp, ∀ o, u2.heap.get? b = some o → u'.heap.get? b = some o ∧ G' b = none := fun b hb o e => by
        have z := J'.pin (b, o) (List.mem_append_right _ (List.mem_append_right _ (mem_pinsAt hb e)))
        exact ⟨z.1, z.2.1⟩
      refine ⟨n', lt, i + 1, G', (J'.unpinned (pins := [])).weak (by rw [← ew, wipe_length]) (fun j v e => ?_), T.keep _ _ _ t2 fun b hb o e => (at' b hb o e).1, fun b hb => ?_, w'⟩
      · rw [← ew] at e; exact (wipe_some e).1
      · obtain ⟨o, e, _⟩ := T.obj _ _ t2 b hb
        exact (at' b hb o e).2
    refine thnF (pg.run _ u2 _ G2 x a _ J2p rx (step x G2 y2)) fun _ u3 ⟨τ, G3, J3, ew, q3⟩ => ?_
    refine thnF (pt.run _ u3 τ G3 _ J3 q3) fun b u4 ⟨G4, J4, q4⟩ => ?_
    cases b
    · rw [if_neg Bool.false_ne_true] at q4 ⊢
      exact back J4 ew q4
    · rw [if_pos rfl] at q4 ⊢
      refine thnF (pk.run _ u4 τ G4 _ J4 q4) fun k1 u5 ⟨y, G5, J5, ry, q5⟩ => ?_
      refine thnF (pv.run _ u5 τ G5 _ J5 q5) fun v1 u6 ⟨z, G6, J6, rz, G7, put, q7⟩ => ?_
      exact d_compSet (X := X.blk s0 H0 scope ce fp) hu J6 put ry rz fun u7 J7 => back J7 ew q7
theorem dcP_core {pins : List (Addr × Obj)} {s : Shared} {σ : L2.St} {H : Hp} {Q : VK} {kx vx tg iter : Expr} {ifs : List Expr} {scope : Scope} {own : List (Str × Nat)} {pos pos' : Pos} {wi : TI} {g : TG} {tt : TT} {tk tv : TE} {use : Option (Value → Sem Unit)} {Z : Value → Shared → Prop}
    (hc : X.calm = true) (hu : X.A.units < cLine) (hN : X.N.Nodup) (I : L2.Inv X pins σ H s) (hi : PI X tg iter wi) (ok : BlkOk X.N X.env.scope scope own)
    (inn : DcIn X kx vx tg ifs scope g tt tk tv) (hs : ∀ x, foldedSetIterable iter X.env x = pure x) (h : tDcP wi g tt tk tv (own.map (·.2)) σ H Q)
    (last : ∀ D C u m G, L2.Inv X pins σ G u → Q (.ref D) G → u.heap.Ns C m → FpOk X pins G C → compPost (model X.prog X.w) X.A X.xe use Z (.ref D) C (.ok .next) u) :
    wpAny (model X.prog X.w) X.A (comprehension (.DictComp kx vx [⟨tg, iter, ifs, 0⟩] scope pos) scope X.env pos' newDict false (eval iter X.env) use) Z X.xe s := by
  have clo : ∀ y ∈ scope.names, y.2 = .free → ∃ c, X.env.cells.lookup y.1 = some c := fun y hy e => (ok.free y hy e).elim (fun k => I.ok.has _ (.inl k)) fun k => I.ok.has _ (.inr k)
  refine wpAny_comprehension_free (use := use) rfl hs (closure_ok clo) ok.kind (fun y hy e => by rw [ok.uniq y hy, e]) (thn (hi.run pins s σ H _ I h) fun xv s1 hx => thn hx fun itv s2 h2 => ?_)
  obtain ⟨it, fp, tn, J, H2, rfl, I2, T, t2, f2, q⟩ := h2
  have lt2 : ∀ b ∈ fp, b < s2.heap.objs.size := fun b hb => by
    obtain ⟨o, e, _⟩ := T.obj _ _ t2 b hb
    exact Heap.lt_size e
  obtain ⟨o, em, W, ⟨m0, w0⟩, turn⟩ := q s2.heap.objs.size (I2.hok.fresh (Nat.le_refl _))
  have I3 := laid_em I2 em
  refine wpAny_newObj_type (newEnv_comp ?_)
  have sz3 : s2.heap.objs.size < (s2.heap.push { cls := .type "dict", data := .dict #[] }).objs.size := by rw [Heap.size_push]; exact Nat.lt_succ_self _
  have f3 : ∀ b ∈ fp, FpOk X pins (upd H2 s2.heap.objs.size o) b ∧ b < (s2.heap.push { cls := .type "dict", data := .dict #[] }).objs.size := fun b hb => by
    have l := lt2 b hb
    refine ⟨⟨?_, (f2 b hb).2⟩, Nat.lt_trans l sz3⟩
    rw [upd_ne (Nat.ne_of_lt l)]; exact (f2 b hb).1
  have kp : ∀ b ∈ fp, ∀ o, s2.heap.get? b = some o → (pushCells ((s2.heap.push { cls := .type "dict", data := .dict #[] }).push { cls := .type "dict", data := .dict #[] }) scope.names).get? b = some o := fun b _ o e => pushCells_keeps _ _ _ _ (Heap.get?_push_of_some _ (Heap.get?_push_of_some _ e))
  have I4 := block_start I3 ok hN f3
  generalize hce : compEnvC scope (cellsFrom (({ s2 with heap := s2.heap.push { cls := .type "dict", data := .dict #[] } } : Shared).heap.objs.size + 1) scope.names (cloFrom X.env.cells scope.names [])) ({ s2 with heap := s2.heap.push { cls := .type "dict", data := .dict #[] } } : Shared).heap.objs.size X.env = ce at I4
  have cl : ce.locals = (s2.heap.push { cls := .type "dict", data := .dict #[] }).objs.size := by rw [← hce]; rfl
  show codeAny _ _ (.compStart (.DictComp kx vx [⟨tg, iter, ifs, 0⟩] scope pos) 0 (.ref it) (.ref s2.heap.objs.size) _) (compPost (model X.prog X.w) X.A X.xe use Z (.ref s2.heap.objs.size) _) _
  have loop := dcp_loop (iter := iter) (pos := pos) (R := compPost (model X.prog X.w) X.A X.xe use Z (.ref s2.heap.objs.size) (s2.heap.push { cls := .type "dict", data := .dict #[] }).objs.size) hc hu T (hce ▸ inn.g _ _ _ _ fp) (hce ▸ inn.t _ _ _ _ fp) (hce ▸ inn.k _ _ _ _ fp) (hce ▸ inn.v _ _ _ _ fp) turn
    (fun G u J' qd => ?_) I4 (T.keep _ _ _ t2 kp) (fun b hb => (f3 b hb).1.1) w0
  · subst hce
    exact codeAny_compStart_dict loop (T.self X.A 0 _ _ _ (T.keep _ _ _ t2 kp) loop)
  · have J2 : L2.Inv X pins σ G u := I3.call' (ch := fp) J'.os J'.base J'.hok J'.bare fun b hb => by
      obtain ⟨_, a2, _, a4, a5, a6⟩ := (f3 b hb).1
      exact ⟨a4, a2, a5, a6⟩
    have free : G (s2.heap.push { cls := .type "dict", data := .dict #[] }).objs.size = none := by
      have z : G ce.locals = none := J'.free
      rw [cl] at z; exact z
    obtain ⟨m, ns, _⟩ := J'.loc
    have ns : u.heap.Ns ce.locals m := ns
    rw [cl] at ns
    exact last _ _ u m G J2 qd ns (I3.fpOk (H' := G) (Nat.le_refl _) free)
theorem pe_dcP {kx vx tg iter : Expr} {ifs : List Expr} {scope : Scope} {own : List (Str × Nat)} {pos : Pos} {wi : TI} {g : TG} {tt : TT} {tk tv : TE} (hc : X.calm = true) (hu : X.A.units < cLine) (hN : X.N.Nodup) (hi : PI X tg iter wi) (ok : BlkOk X.N X.env.scope scope own)
    (inn : DcIn X kx vx tg ifs scope g tt tk tv) (hs : ∀ x, foldedSetIterable iter X.env x = pure x := by intro _; rfl) :
    PE X (.DictComp kx vx [⟨tg, iter, ifs, 0⟩] scope pos) (tDcP wi g tt tk tv (own.map (·.2))) := by
  refine ⟨fun pins s σ H Q I h => ?_⟩
  rw [arm_eval_DictComp]
  refine dcP_core hc hu hN I hi ok inn hs h fun D C u m G J q ns ⟨g0, g1, _, g3, g4, g5⟩ => ⟨m, ns, fun h' sb => ?_⟩
  exact ⟨.ref D, G, J.turned (t' := u.toks) (fun b o hb e => (sb.2 b hb).trans e) g0 g1 g3 g4 g5, rfl, q⟩
/-- name = {..} on one line, the name a local -/
theorem ps_setDcP {i : Nat} {y : Str} {py : Pos} {kx vx tg iter : Expr} {ifs : List Expr} {scope : Scope} {own : List (Str × Nat)} {pos spos : Pos} {wi : TI} {g : TG} {tt : TT} {tk tv : TE} (hc : X.calm = true) (hu : X.A.units < cLine) (hN : X.N.Nodup) (hy : X.N[i]? = some y) (hyl : X.env.scope.names.lookup y = some .local)
    (hsw : swapsWith (.DictComp kx vx [⟨tg, iter, ifs, 0⟩] scope pos) (some (.Name y py)) spos.line X.env = pure true) (hi : PI X tg iter wi) (ok : BlkOk X.N X.env.scope scope own)
    (inn : DcIn X kx vx tg ifs scope g tt tk tv) (hs : ∀ x, foldedSetIterable iter X.env x = pure x := by intro _; rfl) :
    PS X (.Assign [.Name y py] (.DictComp kx vx [⟨tg, iter, ifs, 0⟩] scope pos) spos) (tAsg (tDcP wi g tt tk tv (own.map (·.2))) (gName i)) := by
  refine ⟨fun pins s σ H D I h => ?_⟩
  rw [exec_Assign_Name_used _ _ _ _ hsw]
  refine wpAny_bind (wpAny_standAt (wpAny_bind ?_))
  show wpAny _ X.A (comprehension (.DictComp kx vx [⟨tg, iter, ifs, 0⟩] scope pos) scope X.env (firstIterPos [⟨tg, iter, ifs, 0⟩] pos) newDict false (eval iter X.env) (some (assign (.Name y py) X.env)) >>= fun _ => pure ()) _ _ s
  refine wpAny_bind (thn (Q := fun _ s' => SP X pins D .next s') ?_ fun _ s' hq => wpAny_pure (wpAny_pure hq))
  refine dcP_core (Q := fun x G => gName i x σ G D.nx) (use := some (assign (.Name y py) X.env)) hc hu hN I hi ok inn hs h fun L C u m G J q ns ⟨g0, g1, _, g3, g4, g5⟩ => ?_
  refine wpAny_assign_Name (store_ok2 (v := V.ref L) J hN hy (.inl hyl) rfl (fun s2 J2 ⟨a, sb, ha⟩ => ?_) (.inr hyl))
  have off : C ≠ a := ha.elim (fun z => z ▸ g1) fun z e => g4 y a z e.symm
  exact ⟨m, ns.sameBut sb off, fun h3 sb3 => ⟨_, G, J2.turned (t' := s2.toks) (fun b o hb e => (sb3.2 b hb).trans e) g0 g1 g3 g4 g5, q⟩⟩
theorem sw_dc {kx vx : Expr} {gs : List Comprehension} {scope : Scope} {pos py : Pos} {y : Str} {l : Nat} {env : Env} (hk : env.scope.kind = .function) (hy : env.scope.names.lookup y = some .local) (hl : (py.line == pos.line) = true)
    (ha : (scope.names.any fun (n, k) => n == y && (k == .local || k == .cell)) = false) : swapsWith (.DictComp kx vx gs scope pos) (some (.Name y py)) l env = pure true := by
  have k1 : env.kindOf y = some .local := hy
  have k2 : env.blockKind = .function := by rw [Env.blockKind, hk]; rfl
  simp only [swapsWith, k1, k2, ha, Expr.pos, hl]
  rfl
end
end Sg

set_option Elab.async false
set_option linter.all false
set_option maxRecDepth 100000
set_option maxHeartbeats 4000000
namespace Sg
open PySem PySem.Spec PyProof.Rows L2
/-! ### topics, as data -/
def keyD : Key → PyData
  | .inl i => .int i
  | .inr s => .str s
def topD (k : List Key) : PyData := .tuple (k.map keyD)
theorem keyD_eqv {a b : Key} : PyData.eqv (keyD a) (keyD b) = decide (a = b) := by
  cases a with
  | inl i =>
    cases b with
    | inl j =>
      show PyData.eqv (.int i) (.int j) = _
      simp only [PyData.eqv]
      by_cases h : i = j <;> simp [h]
    | inr t => show PyData.eqv (.int i) (.str t) = _; simp [PyData.eqv]
  | inr s =>
    cases b with
    | inl j => show PyData.eqv (.str s) (.int j) = _; simp [PyData.eqv]
    | inr t =>
      show PyData.eqv (.str s) (.str t) = _
      simp only [PyData.eqv]
      by_cases h : s = t <;> simp [h]
theorem keyD_all : ∀ {a b : List Key}, PyData.eqvAll (a.map keyD) (b.map keyD) = decide (a = b)
  | [], [] => by simp [PyData.eqvAll]
  | [], _ :: _ => by simp [PyData.eqvAll]
  | _ :: _, [] => by simp [PyData.eqvAll]
  | x :: a, y :: b => by
    simp only [List.map_cons, PyData.eqvAll, keyD_eqv, keyD_all (a := a) (b := b), List.cons.injEq, Bool.decide_and]
theorem topD_eqv {a b : List Key} : PyData.eqv (topD a) (topD b) = decide (a = b) := by
  unfold topD
  simp only [PyData.eqv, keyD_all]
def KOk (k : List Key) : Prop := ∀ x ∈ k, ∀ s, x = .inr s → PyData.strOk s = true
theorem keys_lay : ∀ {k : List Key}, KOk k → tupOs (k.map keyD) = true ∧ PyData.canLayAll0 (k.map keyD) = true ∧ PyData.depthAll (k.map keyD) = 0
  | [], _ => ⟨rfl, by simp [PyData.canLayAll0], by simp [PyData.depthAll]⟩
  | x :: k, h => by
    obtain ⟨i1, i2, i3⟩ := keys_lay (k := k) fun y hy => h y (List.mem_cons_of_mem _ hy)
    have hx := h x List.mem_cons_self
    cases x with
    | inl i => exact ⟨by simp [keyD, tupOs, tupO, i1], by simp [keyD, PyData.canLayAll0, PyData.canLay0, i2], by simp [keyD, PyData.depthAll, PyData.depth, i3]⟩
    | inr s => exact ⟨by simp [keyD, tupOs, tupO, i1], by simp [keyD, PyData.canLayAll0, PyData.canLay0, i2, hx s rfl], by simp [keyD, PyData.depthAll, PyData.depth, i3]⟩
theorem topD_g {k : List Key} (h : KOk k) : GD 1 (topD k) := by
  obtain ⟨i1, i2, i3⟩ := keys_lay h
  exact ⟨by simp [topD, tupO, i1], by simp [topD, PyData.canLay0, i2], by simp [topD, PyData.depth, i3]⟩
def TopAt (K : PySem.W.Frag) (H : Hp) (t : Addr) (k : List Key) : Prop := SqT K H t (k.map kV)
theorem keys_dp {K : PySem.W.Frag} {H : Hp} : ∀ {k : List Key}, DpAll K H (k.map kV) (k.map keyD)
  | [] => .nil
  | .inl i :: _ => .cons (.int i) keys_dp
  | .inr s :: _ => .cons (.str s) keys_dp
theorem TopAt.dp {K : PySem.W.Frag} {H : Hp} {t : Addr} {k : List Key} (h : TopAt K H t k) : Dp K H (.ref t) (topD k) := .tup h keys_dp
end Sg

set_option Elab.async false
set_option linter.all false
set_option maxRecDepth 100000
set_option maxHeartbeats 4000000
namespace Sg
open PySem PySem.Spec PyProof.Rows L2
/-! ### a table without one of its names: {x: d[x] for x in d if x != y} -/
theorem dcp_it {J : It} {n : Nat} {G : Hp → Prop} {Y : Nat → Hp → V → Hp → Prop} (w : Walk J n G Y) {g : TG} {tt : TT} {tk tv : TE} {vs : List Nat} {σ : L2.St} {H1 : Hp} {D : Addr} {Qd : Hp → Prop} (Pv : Nat → Hp → Prop) {o : HO} (h0 : Pv 0 (upd H1 D o)) (hG : ∀ i H, i ≤ n → Pv i H → G H)
    (hs : ∀ i x H H', i < n → Pv i H → Y i H x H' → g x (wipe σ vs) H' fun σ2 H2 => wipe σ2 vs = wipe σ vs ∧ tt σ2 H2 fun b H3 =>
      if b = true then tk σ2 H3 fun y H4 => tv σ2 H4 fun z H5 => ∃ H6, DPut H5 D y z H6 ∧ Pv (i + 1) H6 else Pv (i + 1) H3) (hd : ∀ H, Pv n H → Qd H) :
    ∃ W : Nat → Nat → Hp → Prop, (∃ m, W 0 m (upd H1 D o)) ∧ DcTurn J g tt tk tv σ vs D W Qd := by
  refine ⟨fun i m H => m + i = n ∧ Pv i H, ⟨n, rfl, h0⟩, fun i m H ⟨e, p⟩ => ?_⟩
  cases m with
  | zero =>
    have e' : i = n := by omega
    subst e'
    exact .inl ⟨w.stops H (hG _ H (Nat.le_refl _) p), hd H p⟩
  | succ m =>
    have lt : i < n := by omega
    have q := hG i H (Nat.le_of_lt lt) p
    exact .inr ⟨w.goes i H lt q, Pv (i + 1), fun H' p' => ⟨m, Nat.lt_succ_self m, by omega, p'⟩, fun x H' y => hs i x H H' lt p (w.yields i H x H' lt q y)⟩
/-- the two kinds of tables in one -/
structure TKd (K : PySem.W.Frag) (κ : Type) [DecidableEq κ] where
  ho : List (κ × V) → HO
  at' : Hp → V → κ → Prop
  dat : κ → PyData
  ok : κ → Prop
  em : EmD (ho [])
  mt : ∀ l, Mut (some (ho l))
  nt : ∀ l, (∀ xs, ho l ≠ .tup xs) ∧ ∀ o u, ho l ≠ .frz o u
  get : ∀ {H : Hp} {d : Addr} {l : List (κ × V)} {y : V} {k : κ}, Rd H d (ho l) → at' H y k → DGet H d y (valV l k)
  put : ∀ {H : Hp} {d : Addr} {l : List (κ × V)} {y v : V} {k : κ}, H d = some (ho l) → at' H y k → l.length < sizeLine → DPut H d y v (upd H d (ho (putK l k v)))
  tk : ∀ {H H' : Hp} {y : V} {k : κ}, TK H H' → at' H y k → at' H' y k
  dp : ∀ {H : Hp} {y : V} {k : κ}, at' H y k → Dp K H y (dat k)
  sh : ∀ {k : κ}, ok k → SeqAt.shaped (dat k) = true
  eqv : ∀ {a b : κ}, PyData.eqv (dat a) (dat b) = decide (a = b)
  walk : ∀ {d : Addr} {o : Obj} {l : List (κ × V)} {H : Hp} {R : It → Hp → Prop}, H d = some (.frz o (ho l)) →
    (∀ J, Walk J l.length (fun H => H d = some (.frz o (ho l))) (fun i H x H' => H' = H ∧ ∃ k v, l[i]? = some (k, v) ∧ at' H x k) → R J H) →
    (∃ kvs, H d = some (.frz o (.dK kvs)) ∧ R (Itk d o kvs) H) ∨ ∃ kvs, H d = some (.frz o (.dT kvs)) ∧ R (Itkt d o kvs) H
def kdK (K : PySem.W.Frag) : TKd K Key where
  ho := .dK
  at' := fun _ y k => y = kV k
  dat := keyD
  ok := fun k => KOk [k]
  em := .inl rfl
  mt := fun _ => True.intro
  nt := fun l => ⟨fun _ h => (nomatch h), fun _ _ h => (nomatch h)⟩
  get := fun h e => by subst e; exact .inl ⟨_, _, h, rfl, rfl⟩
  put := fun h e hl => by subst e; exact DPut.k h hl
  tk := fun _ h => h
  dp := fun {H y k} e => by
    subst e
    cases k with
    | inl i => exact .int i
    | inr s => exact .str s
  sh := fun {k} h => by
    obtain ⟨h1, h2, h3⟩ := keys_lay h
    refine shaped_of ?_ ?_
    · simp only [List.map_cons, List.map_nil, PyData.canLayAll0, Bool.and_true] at h2; exact h2
    · simp only [List.map_cons, List.map_nil, PyData.depthAll] at h3; omega
  eqv := keyD_eqv
  walk := fun {d o l H R} h q => .inl ⟨l, h, q _ ⟨walk_keys.goes, walk_keys.stops, fun i H x H' a b c => by
    obtain ⟨e, k, v, h1, h2⟩ := walk_keys.yields i H x H' a b c
    exact ⟨e, k, v, h1, h2⟩⟩⟩
def kdT (K : PySem.W.Frag) : TKd K (List Key) where
  ho := .dT
  at' := fun H y k => ∃ b, y = .ref b ∧ H b = some (.tup (k.map kV))
  dat := topD
  ok := KOk
  em := .inr rfl
  mt := fun _ => True.intro
  nt := fun l => ⟨fun _ h => (nomatch h), fun _ _ h => (nomatch h)⟩
  get := fun {H d l y k} h e => by obtain ⟨b, rfl, hb⟩ := e; exact .inr ⟨l, k, b, h, rfl, hb, rfl⟩
  put := fun h e hl => by obtain ⟨b, rfl, hb⟩ := e; exact DPut.t h hb hl
  tk := fun s e => by obtain ⟨b, rfl, hb⟩ := e; exact ⟨b, rfl, s.t _ _ hb⟩
  dp := fun e => by obtain ⟨b, rfl, hb⟩ := e; exact TopAt.dp (SqT.of hb)
  sh := fun h => (topD_g h).sh (by decide)
  eqv := topD_eqv
  walk := fun {d o l H R} h q => .inr ⟨l, h, q _ ⟨walk_keysT.goes, walk_keysT.stops, fun i H x H' a b c => by
    obtain ⟨e, k, v, b, h1, h2, h3⟩ := walk_keysT.yields i H x H' a b c
    exact ⟨e, k, v, h1, b, h2, h3⟩⟩⟩
theorem tk_upd {H : Hp} {d : Addr} {o u : HO} (h : H d = some o) (n1 : ∀ xs, o ≠ .tup xs) (n2 : ∀ a b, o ≠ .frz a b) : TK H (upd H d u) := by
  refine ⟨fun a xs e => ?_, fun a b xs e => ?_⟩
  · rw [upd_ne (fun z => by rw [z, h] at e; exact n1 _ (Option.some.inj e))]; exact e
  · rw [upd_ne (fun z => by rw [z, h] at e; exact n2 _ _ (Option.some.inj e))]; exact e
section
variable {κ : Type} [DecidableEq κ]
theorem dropK_take {l : List (κ × V)} {k0 k : κ} {v : V} {i : Nat} (h : l[i]? = some (k, v)) : dropK (l.take (i + 1)) k0 = dropK (l.take i) k0 ++ (if k = k0 then [] else [(k, v)]) := by
  unfold dropK
  rw [List.take_add_one, h, List.filter_append]
  by_cases c : k = k0 <;> simp [c]
theorem valV_none {l : List (κ × V)} {k : κ} (h : ∀ p ∈ l, p.1 ≠ k) : valV l k = none := by
  cases e : valV l k with
  | none => rfl
  | some v => 
    have := valV_any (kvs := l) (k := k)
    rw [e] at this
    obtain ⟨p, hp, hk⟩ := List.any_eq_true.mp this
    exact absurd (of_decide_eq_true hk) (h p hp)
theorem valV_get {l : List (κ × V)} {k : κ} {v : V} {i : Nat} (nd : (l.map (·.1)).Nodup) (h : l[i]? = some (k, v)) : valV l k = some v := by
  induction l generalizing i with
  | nil => simp at h
  | cons p r ih =>
    rw [List.map_cons, List.nodup_cons] at nd
    cases i with
    | zero =>
      obtain rfl : p = (k, v) := by simpa using h
      exact valV_pos rfl
    | succ i =>
      have h' : r[i]? = some (k, v) := by simpa using h
      rw [valV_neg (fun e => nd.1 (List.mem_map.mpr ⟨_, List.mem_of_getElem? h', e.symm⟩))]
      exact ih nd.2 h'
theorem new_take {l : List (κ × V)} {k0 k : κ} {v : V} {i : Nat} (nd : (l.map (·.1)).Nodup) (h : l[i]? = some (k, v)) : valV (dropK (l.take i) k0) k = none := by
  refine valV_none fun p hp e => ?_
  have hp' : p ∈ l.take i := (List.mem_filter.mp hp).1
  obtain ⟨j, hj⟩ := List.mem_iff_getElem?.mp hp'
  have hji : j < i := by
    have := (List.getElem?_eq_some_iff.mp hj).1
    rw [List.length_take] at this; omega
  rw [List.getElem?_take_of_lt hji] at hj
  have h1 : (l.map (·.1))[j]? = some k := by rw [List.getElem?_map, hj, ← e]; rfl
  have h2 : (l.map (·.1))[i]? = some k := by rw [List.getElem?_map, h]; rfl
  have lj := (List.getElem?_eq_some_iff.mp h1).1
  have li := (List.getElem?_eq_some_iff.mp h2).1
  have e1 := (List.getElem?_eq_some_iff.mp h1).2
  have e2 := (List.getElem?_eq_some_iff.mp h2).2
  exact (List.pairwise_iff_getElem.mp nd) j i lj li hji (e1.trans e2.symm)
end
end Sg

set_option Elab.async false
set_option linter.all false
set_option maxRecDepth 100000
set_option maxHeartbeats 4000000
namespace Sg
open PySem PySem.Spec PyProof.Rows L2
section
variable {K : PySem.W.Frag} {κ : Type} [DecidableEq κ]
theorem dropK_len {l : List (κ × V)} {k : κ} : (dropK l k).length ≤ l.length := List.length_filter_le _ _
/-- the comprehension alone, the table locked -/
theorem keep_dc (T : TKd K κ) {σ : L2.St} {H1 : Hp} {Q : VK} {jt jn jx : Nat} {d : Addr} {od : Obj} {kvs : List (κ × V)} {k0 : κ} {y0 : V} (hjx : jx < σ.length) (htx : jt ≠ jx) (hnx : jn ≠ jx) (ht : σ[jt]? = some (some (.ref d))) (hn : σ[jn]? = some (some y0))
    (hd1 : H1 d = some (.frz od (T.ho kvs))) (hk : T.at' H1 y0 k0) (ok0 : T.ok k0) (ok : ∀ p ∈ kvs, T.ok p.1) (nd : (kvs.map (·.1)).Nodup) (hl : kvs.length ≤ 1000)
    (q : ∀ D H', Same H1 H' → H1 D = none → H' D = some (T.ho (dropK kvs k0)) → Q (.ref D) H') :
    tDcP (iKeys (tVar jt)) (gName jx) (tTest (tOp (rNeD K) (tVar jx) (tVar jn))) (tVar jx) (tDGet (tVar jt) (tVar jx)) [jx] σ H1 Q := by
  refine ⟨_, ht, d, od, rfl, T.walk (R := fun J G => ∀ D, G D = none → ∃ o, EmD o ∧ ∃ W : Nat → Nat → Hp → Prop, (∃ m, W 0 m (upd G D o)) ∧ DcTurn J (gName jx) (tTest (tOp (rNeD K) (tVar jx) (tVar jn))) (tVar jx) (tDGet (tVar jt) (tVar jx)) σ [jx] D W fun G' => Q (.ref D) G') hd1 fun J w D hD => ⟨T.ho [], T.em, ?_⟩⟩
  refine dcp_it w (fun i H' => Same H1 H' ∧ H' D = some (T.ho (dropK (kvs.take i) k0))) ⟨same_new hD, upd_same⟩ (fun i H' _ p => p.1 _ _ hd1) ?_ ?_
  · rintro i x H' H'' hi ⟨sm, hDi⟩ ⟨rfl, k, v, hki, hat⟩
    have g1 : ((wipe σ [jx]).set jx (some x))[jx]? = some (some x) := by
      rw [List.getElem?_set_self (by rw [wipe_length]; exact hjx)]
    have gt : ((wipe σ [jx]).set jx (some x))[jt]? = some (some (.ref d)) := by
      rw [List.getElem?_set_ne (Ne.symm htx)]
      show (σ.set jx none)[jt]? = _
      rw [List.getElem?_set_ne (Ne.symm htx)]; exact ht
    have gn : ((wipe σ [jx]).set jx (some x))[jn]? = some (some y0) := by
      rw [List.getElem?_set_ne (Ne.symm hnx)]
      show (σ.set jx none)[jn]? = _
      rw [List.getElem?_set_ne (Ne.symm hnx)]; exact hn
    have hat0 : T.at' H'' y0 k0 := T.tk (TK.of sm) hk
    refine ⟨?_, ?_⟩
    · show ((σ.set jx none).set jx (some x)).set jx none = σ.set jx none
      rw [List.set_set, List.set_set]
    · refine ⟨_, g1, _, gn, _, _, T.dp hat, T.dp hat0, T.sh (ok _ (List.mem_of_getElem? hki)), T.sh ok0, _, rfl, ?_⟩
      rw [T.eqv]
      dsimp only
      have lt : (kvs.take i).length ≤ 1000 := by rw [List.length_take]; omega
      by_cases c : k = k0
      · rw [if_neg (by simp [c])]
        refine ⟨sm, ?_⟩
        rw [dropK_take hki, if_pos c, List.append_nil]; exact hDi
      · rw [if_pos (by simp [c])]
        refine ⟨_, g1, _, gt, _, g1, d, v, rfl, ?_, _, T.put (l := dropK (kvs.take i) k0) hDi hat (small1000 (Nat.le_trans dropK_len lt)), ?_, ?_⟩
        · have := T.get (.inr ⟨od, sm _ _ hd1⟩) hat
          rw [valV_get nd hki] at this; exact this
        · intro b o e
          have : b ≠ D := fun z => by rw [z, hD] at e; cases e
          rw [upd_ne this]; exact sm _ _ e
        · rw [dropK_take hki, if_neg c, putK_new v (new_take nd hki)]; exact upd_same
  · rintro H' ⟨sm, hDn⟩
    exact q D _ sm hD (by rw [hDn, List.take_length])
theorem lock_same {H H1 H' : Hp} {d : Addr} {o u : HO} (hd : H d = some o) (e1 : H1 = upd H d u) (sm : Same H1 H') : Same H (upd H' d o) := fun b x e => by
  by_cases c : b = d
  · rw [c, hd] at e; cases e
    rw [c]; exact upd_same
  · rw [upd_ne c]; exact sm _ _ (by rw [e1, upd_ne c]; exact e)
theorem lock_free {H : Hp} {d D : Addr} {u : HO} (h : (upd H d u) D = none) : D ≠ d ∧ H D = none := by
  by_cases c : D = d
  · rw [c, upd_same] at h; cases h
  · rw [upd_ne c] at h; exact ⟨c, h⟩
theorem keep_te (T : TKd K κ) {σ : L2.St} {H : Hp} {Q : VK} {jt jn jx : Nat} {d : Addr} {kvs : List (κ × V)} {k0 : κ} {y0 : V} (hjx : jx < σ.length) (htx : jt ≠ jx) (hnx : jn ≠ jx) (ht : σ[jt]? = some (some (.ref d))) (hn : σ[jn]? = some (some y0))
    (hd : H d = some (T.ho kvs)) (hk : T.at' H y0 k0) (ok0 : T.ok k0) (ok : ∀ p ∈ kvs, T.ok p.1) (nd : (kvs.map (·.1)).Nodup) (hl : kvs.length ≤ 1000)
    (q : ∀ D H', Same H H' → H D = none → H' D = some (T.ho (dropK kvs k0)) → Q (.ref D) H') :
    tLockE (tDcP (iKeys (tVar jt)) (gName jx) (tTest (tOp (rNeD K) (tVar jx) (tVar jn))) (tVar jx) (tDGet (tVar jt) (tVar jx)) [jx]) σ H Q := by
  refine ⟨d, T.ho kvs, hd, T.mt _, fun od => keep_dc T hjx htx hnx ht hn upd_same (T.tk (tk_upd hd (T.nt kvs).1 (T.nt kvs).2) hk) ok0 ok nd hl fun D H' sm hD hDn => ?_⟩
  obtain ⟨n, f⟩ := lock_free hD
  exact ⟨sm _ _ upd_same, q D _ (lock_same hd rfl sm) f (by rw [upd_ne n]; exact hDn)⟩
theorem keep_ts (T : TKd K κ) {σ : L2.St} {H : Hp} {D0 : Ends} {i jt jn jx : Nat} {d : Addr} {kvs : List (κ × V)} {k0 : κ} {y0 : V} (hjx : jx < σ.length) (htx : jt ≠ jx) (hnx : jn ≠ jx) (ht : σ[jt]? = some (some (.ref d))) (hn : σ[jn]? = some (some y0))
    (hd : H d = some (T.ho kvs)) (hk : T.at' H y0 k0) (ok0 : T.ok k0) (ok : ∀ p ∈ kvs, T.ok p.1) (nd : (kvs.map (·.1)).Nodup) (hl : kvs.length ≤ 1000)
    (q : ∀ D H', Same H H' → H D = none → H' D = some (T.ho (dropK kvs k0)) → D0.nx (σ.set i (some (.ref D))) H') :
    tLock (tAsg (tDcP (iKeys (tVar jt)) (gName jx) (tTest (tOp (rNeD K) (tVar jx) (tVar jn))) (tVar jx) (tDGet (tVar jt) (tVar jx)) [jx]) (gName i)) D0 σ H := by
  refine ⟨d, T.ho kvs, hd, T.mt _, fun od => keep_dc T hjx htx hnx ht hn upd_same (T.tk (tk_upd hd (T.nt kvs).1 (T.nt kvs).2) hk) ok0 ok nd hl fun D H' sm hD hDn => ?_⟩
  obtain ⟨n, f⟩ := lock_free hD
  exact ⟨sm _ _ upd_same, q D _ (lock_same hd rfl sm) f (by rw [upd_ne n]; exact hDn)⟩
end
end Sg

set_option Elab.async false
set_option linter.all false
set_option maxRecDepth 100000
set_option maxHeartbeats 4000000
namespace Sg
open PySem PySem.Spec PyProof.Rows L2
theorem chooseF' {b : Bool} {A B : Prop} (h : b = false) (x : B) : (if b = true then A else B) := by rw [h]; exact x
theorem chooseT' {b : Bool} {A B : Prop} (h : b = true) (x : A) : (if b = true then A else B) := by rw [if_pos h]; exact x
section
variable {K : PySem.W.Frag} {κ : Type} [DecidableEq κ]
theorem newF_take {l : List (κ × V)} {f : κ → Bool} {k : κ} {v : V} {i : Nat} (nd : (l.map (·.1)).Nodup) (h : l[i]? = some (k, v)) : valV ((l.take i).filter fun p => f p.1) k = none := by
  refine valV_none fun p hp e => ?_
  obtain ⟨j, hj⟩ := List.mem_iff_getElem?.mp (List.mem_filter.mp hp).1
  have hji : j < i := by
    have := (List.getElem?_eq_some_iff.mp hj).1
    rw [List.length_take] at this; omega
  rw [List.getElem?_take_of_lt hji] at hj
  have h1 : (l.map (·.1))[j]? = some k := by rw [List.getElem?_map, hj, ← e]; rfl
  have h2 : (l.map (·.1))[i]? = some k := by rw [List.getElem?_map, h]; rfl
  have lj := (List.getElem?_eq_some_iff.mp h1).1
  have li := (List.getElem?_eq_some_iff.mp h2).1
  exact (List.pairwise_iff_getElem.mp nd) j i lj li hji ((List.getElem?_eq_some_iff.mp h1).2.trans (List.getElem?_eq_some_iff.mp h2).2.symm)
/-- those of a table whose name a test takes -/
theorem keepF_dc (T : TKd K κ) {σ : L2.St} {H1 : Hp} {Q : VK} {jt jx : Nat} {d : Addr} {od : Obj} {kvs : List (κ × V)} {tt : TT} (f : κ → Bool) (hjx : jx < σ.length) (htx : jt ≠ jx) (ht : σ[jt]? = some (some (.ref d)))
    (hd1 : H1 d = some (.frz od (T.ho kvs))) (nd : (kvs.map (·.1)).Nodup) (hl : kvs.length ≤ 1000)
    (he : ∀ x k H' (Q' : Bool → Hp → Prop), k ∈ kvs.map (·.1) → T.at' H' x k → Same H1 H' → Q' (f k) H' → tt ((σ.set jx none).set jx (some x)) H' Q')
    (q : ∀ D H', Same H1 H' → H1 D = none → H' D = some (T.ho (kvs.filter fun p => f p.1)) → Q (.ref D) H') :
    tDcP (iKeys (tVar jt)) (gName jx) tt (tVar jx) (tDGet (tVar jt) (tVar jx)) [jx] σ H1 Q := by
  refine ⟨_, ht, d, od, rfl, T.walk (R := fun J G => ∀ D, G D = none → ∃ o, EmD o ∧ ∃ W : Nat → Nat → Hp → Prop, (∃ m, W 0 m (upd G D o)) ∧ DcTurn J (gName jx) tt (tVar jx) (tDGet (tVar jt) (tVar jx)) σ [jx] D W fun G' => Q (.ref D) G') hd1 fun J w D hD => ⟨T.ho [], T.em, ?_⟩⟩
  refine dcp_it w (fun i H' => Same H1 H' ∧ H' D = some (T.ho ((kvs.take i).filter fun p => f p.1))) ⟨same_new hD, upd_same⟩ (fun i H' _ p => p.1 _ _ hd1) ?_ ?_
  · rintro i x H' H'' hi ⟨sm, hDi⟩ ⟨rfl, k, v, hki, hat⟩
    have g1 : ((wipe σ [jx]).set jx (some x))[jx]? = some (some x) := by
      rw [List.getElem?_set_self (by rw [wipe_length]; exact hjx)]
    have gt : ((wipe σ [jx]).set jx (some x))[jt]? = some (some (.ref d)) := by
      rw [List.getElem?_set_ne (Ne.symm htx)]
      show (σ.set jx none)[jt]? = _
      rw [List.getElem?_set_ne (Ne.symm htx)]; exact ht
    refine ⟨?_, ?_⟩
    · show ((σ.set jx none).set jx (some x)).set jx none = σ.set jx none
      rw [List.set_set, List.set_set]
    · refine he x k H'' _ (List.mem_map.mpr ⟨_, List.mem_of_getElem? hki, rfl⟩) hat sm ?_
      have tks : (kvs.take (i + 1)).filter (fun p => f p.1) = (kvs.take i).filter (fun p => f p.1) ++ (if f k = true then [(k, v)] else []) := by
        rw [List.take_add_one, hki, List.filter_append]
        by_cases c : f k = true <;> simp [c]
      have lt : (kvs.take i).length ≤ 1000 := by rw [List.length_take]; omega
      by_cases c : f k = true
      · refine chooseT' c ?_
        refine ⟨_, g1, _, gt, _, g1, d, v, rfl, ?_, _, T.put (l := (kvs.take i).filter fun p => f p.1) hDi hat (small1000 (Nat.le_trans (List.length_filter_le _ _) lt)), ?_, ?_⟩
        · have := T.get (.inr ⟨od, sm _ _ hd1⟩) hat
          rw [valV_get nd hki] at this; exact this
        · intro b o e
          have : b ≠ D := fun z => by rw [z, hD] at e; cases e
          rw [upd_ne this]; exact sm _ _ e
        · rw [tks, if_pos c, putK_new v (newF_take nd hki)]; exact upd_same
      · refine chooseF' (by simpa using c) ⟨sm, ?_⟩
        rw [tks, if_neg c, List.append_nil]; exact hDi
  · rintro H' ⟨sm, hDn⟩
    exact q D _ sm hD (by rw [hDn, List.take_length])
end
end Sg

set_option Elab.async false
set_option linter.all false
set_option maxRecDepth 100000
set_option maxHeartbeats 4000000
namespace Sg
open PySem PySem.Spec PyProof.Rows L2
/-! ### dict(l) of a list of pairs, the keys of either kind -/
section
variable {κ : Type} [DecidableEq κ]
def mergeG (kvs more : List (κ × V)) : List (κ × V) := more.foldl (fun acc kv => putK acc kv.1 kv.2) kvs
theorem merge_new : ∀ (more acc : List (κ × V)), ((acc ++ more).map (·.1)).Nodup → mergeG acc more = acc ++ more
  | [], acc, _ => (List.append_nil acc).symm
  | p :: r, acc, nd => by
    have hn : valV acc p.1 = none := valV_none fun q hq e => by
      rw [List.map_append, List.nodup_append] at nd
      exact nd.2.2 q.1 (List.mem_map.mpr ⟨q, hq, rfl⟩) p.1 (by simp) e
    show mergeG (putK acc p.1 p.2) r = _
    rw [putK_new p.2 hn, merge_new r _ (by rw [List.append_assoc]; exact nd), List.append_assoc]
    rfl
theorem merge_nodup {l : List (κ × V)} (nd : (l.map (·.1)).Nodup) : mergeG [] l = l := merge_new l [] nd
end
theorem KT.mergeG {H : Hp} : ∀ {more : List (List Key × V)} {ps : List (List Key × Addr × Value)} {kvs : List (List Key × V)} {xs : List (List Key × Addr × Value)}, KT H more ps → KT H kvs xs → KT H (Sg.mergeG kvs more) (storedAllH xs ps) := by
  intro more ps kvs xs r
  unfold KT at r
  induction r generalizing kvs xs with
  | nil => exact fun h => h
  | @cons a b as bs h t ih =>
    intro r0
    have e : KT H (putK kvs a.1 a.2) (storedH xs b.1 b.2.1 b.2.2) := by
      have := r0.put a.1 h.2.1 h.2.2
      rw [← h.1]; exact this
    exact ih e
section
variable {X : Cx}
theorem pairs_ofT {pins : List (Addr × Obj)} {σ : L2.St} {H : Hp} {s : Shared} (I : L2.Inv X pins σ H s) : ∀ {ps : List Addr} {kvs : List (List Key × V)}, Paired (fun p kv => ∃ b, SqT X.K H p [.ref b, kv.2] ∧ H b = some (.tup (kv.1.map kV))) ps kvs →
    ∃ (prs : List (List Key × Addr × Value)) (us : List (Value × Value)), KT H kvs prs ∧ prs.length = ps.length ∧ us.length = ps.length ∧ ∀ (j : Nat) (k v : Value), us[j]? = some (k, v) → (∃ b : Addr, ps[j]? = some b ∧ IsTup s.heap b #[k, v]) ∧ ∃ key b, prs[j]? = some (key, b, v) ∧ k = .ref b
  | _, _, .nil => ⟨[], [], .nil, rfl, rfl, fun j k v e => by simp at e⟩
  | _, _, .cons (a := p) (b := kv) h t => by
    obtain ⟨prs, us, r, hl, hl2, hp⟩ := pairs_ofT I t
    obtain ⟨b, h, hb⟩ := h
    obtain ⟨its, rv, ht, _⟩ := I.tuple h
    obtain ⟨u, y, ei, ru, ry⟩ := vals2 rv
    subst ei
    obtain rfl : u = Value.ref b := ru
    refine ⟨(kv.1, b, y) :: prs, (.ref b, y) :: us, .cons ⟨rfl, hb, ry⟩ r, by rw [List.length_cons, List.length_cons, hl], by rw [List.length_cons, List.length_cons, hl2], fun j k v e => ?_⟩
    cases j with
    | zero =>
      have e' : (Value.ref b, y) = (k, v) := Option.some.inj e
      cases e'
      exact ⟨⟨p, rfl, ht⟩, kv.1, b, rfl, rfl⟩
    | succ j =>
      obtain ⟨⟨b', e1, e2⟩, key, b2, e3, e4⟩ := hp j k v (by simpa using e)
      exact ⟨⟨b', by simpa using e1, e2⟩, key, b2, by simpa using e3, e4⟩
def rDictL (K : PySem.W.Frag) : List V → Hp → VK → Prop := fun xs H Q => ∃ (a : Addr) (ps : List Addr), xs = [.ref a] ∧ SqL K H a (ps.map V.ref) ∧
  ((∃ kvs : List (Key × V), Paired (fun p kv => SqT K H p [kV kv.1, kv.2]) ps kvs ∧ (kvs.map (·.1)).Nodup ∧ ∀ p, H p = none → Q (.ref p) (upd H p (.dK kvs))) ∨
   ∃ kvs : List (List Key × V), Paired (fun p kv => ∃ b, SqT K H p [.ref b, kv.2] ∧ H b = some (.tup (kv.1.map kV))) ps kvs ∧ (kvs.map (·.1)).Nodup ∧ ∀ p, H p = none → Q (.ref p) (upd H p (.dT kvs)))
theorem call_dictL (hcalm : X.calm = true) (hu : X.A.units + 2 < cLine) : CallR X (.type "dict") (rDictL X.K) := by
  intro pins s σ H xs us Q I r q
  obtain ⟨a, ps, ex, hq, q⟩ := q
  subst ex
  obtain ⟨u, eu, rx⟩ := vals1 r
  subst eu
  cases rx
  obtain ⟨its, rv, pl, hz⟩ := I.list hq
  have ei := refs_at rv
  subst ei
  rw [List.length_map] at hz
  have hh := I.ok.hd hcalm
  have hm : (s.heap.objs.size == sysModules) = false := beq_eq_false_iff_ne.mpr (Nat.ne_of_gt I.big)
  rcases q with ⟨kvs, hp, nd, q⟩ | ⟨kvs, hp, nd, q⟩
  · obtain ⟨prs, us2, rel, hl, hl2, hpr⟩ := pairs_of2 I hp
    refine PySem.call_dict_pairs (knd := mixKind X.prog X.w) (kvs := prs) (PairArg.list a (ps.map Value.ref).toArray (fun j => ps.getD j 0) us2) hh ⟨pl, ?_, fun j k v e => ?_⟩ ⟨?_, fun j k v e => ?_⟩ ?_ fun h' tk hd' k => ?_
    · simp [hl2]
    · obtain ⟨⟨b, e1, e2⟩, _⟩ := hpr j k v e
      have e3 : ps.getD j 0 = b := by rw [List.getD_eq_getElem?_getD, e1]; rfl
      show _ = some (Value.ref (ps.getD j 0)) ∧ PairAt s.heap (ps.getD j 0) k v
      rw [e3]
      exact ⟨by simp [e1], .inl e2⟩
    · rw [hl, hl2]
    · obtain ⟨_, key, e3, e4⟩ := hpr j k v e
      exact ⟨key, e3, e4⟩
    · rw [hl2]; exact hz
    · have hlen : kvs.length ≤ sizeLine := by rw [rel.length, hl]; exact hz
      have rm : KV (mergeK [] kvs) (merged [] prs) := KV.merge rel .nil
      have em : mergeK [] kvs = kvs := merge_nodup nd
      rw [em] at rm
      exact ⟨.ref s.heap.objs.size, upd H s.heap.objs.size (.dK kvs), I.laid (t' := tk) (fun b o e => k b o (by simp) e) (Nat.le_refl _) (show ObjOk X.prog X.w _ _ _ (.dK kvs) from ⟨hlen, hm, merged [] prs, rm, hd'⟩), rfl, q _ (I.hok.fresh (Nat.le_refl _))⟩
  · obtain ⟨prs, us2, rel, hl, hl2, hpr⟩ := pairs_ofT I hp
    have key : ∀ x ∈ prs, ∃ ks, H x.2.1 = some (.tup (ks.map kV)) ∧ x.1 = ks := fun x hx => by
      obtain ⟨j, hj⟩ := List.mem_iff_getElem?.mp hx
      have jl := (List.getElem?_eq_some_iff.mp hj).1
      have kl := Paired.length rel
      obtain ⟨y, hy, q1, q2, q3⟩ := paired_get rel (show kvs[j]? = some (kvs[j]'(by omega)) from List.getElem?_eq_getElem (by omega))
      rw [hj] at hy; cases hy
      exact ⟨_, q2, q1.symm⟩
    refine PySem.call_dict_pairsH (knd := tupleKind (mixKind X.prog X.w)) (ps := prs) (PairArg.list a (ps.map Value.ref).toArray (fun j => ps.getD j 0) us2) hh (tupleKind_room_in1 (A := X.A.in1) hu) ⟨pl, ?_, fun j k v e => ?_⟩ ⟨?_, fun j k v e => ?_⟩ (fun h' hk x hx => ?_) ?_ fun h' tk hd' k => ?_
    · simp [hl2]
    · obtain ⟨⟨b, e1, e2⟩, _⟩ := hpr j k v e
      have e3 : ps.getD j 0 = b := by rw [List.getD_eq_getElem?_getD, e1]; rfl
      show _ = some (Value.ref (ps.getD j 0)) ∧ PairAt s.heap (ps.getD j 0) k v
      rw [e3]
      exact ⟨by simp [e1], .inl e2⟩
    · rw [hl, hl2]
    · obtain ⟨_, key, b, e3, e4⟩ := hpr j k v e
      exact ⟨key, b, e3, e4⟩
    · obtain ⟨ks, hb, ex⟩ := key x hx
      rw [ex]
      obtain ⟨o, vs, n, g1, g2, g3, g4⟩ := key_of I.hok hb
      exact ⟨o, vs, n, hk _ _ (Nat.ne_of_lt (Heap.lt_size g1)) (by simp) g1, g2, g3, g4⟩
    · rw [hl2]; exact hz
    · have hlen : kvs.length ≤ sizeLine := by rw [Paired.length rel, hl]; exact hz
      have rm : KT H (Sg.mergeG [] kvs) (storedAllH [] prs) := KT.mergeG rel .nil
      rw [merge_nodup nd] at rm
      have fr := I.hok.fresh (Nat.le_refl s.heap.objs.size)
      obtain ⟨o, es, ep, g1, g2, g3, g4, g5, g6⟩ := hd'
      refine ⟨.ref s.heap.objs.size, upd H s.heap.objs.size (.dT kvs), I.laid (t' := tk) (fun b o e => k b o (by simp) e) (Nat.le_refl _) (show ObjOk X.prog X.w _ _ _ (.dT kvs) from ⟨hlen, hm, storedAllH [] prs, rm.keeps (fun b ys e => ?_), o, es, ep, g1, g2, g3, g4, g6⟩), rfl, q _ fr⟩
      rw [upd_ne (ne_of_none e fr)]; exact e
end
end Sg

set_option Elab.async false
set_option linter.all false
set_option maxRecDepth 100000
set_option maxHeartbeats 4000000
namespace Sg
open PySem PySem.Spec PyProof.Rows L2
theorem SqP.tk {K : PySem.W.Frag} {H H' : Hp} {a : Addr} {xs : List V} (h : SqP K H a xs) (s : TK H H') : SqP K H' a xs := by
  rcases h with ⟨o, h, hd⟩ | h
  · exact .inl ⟨o, s.f _ _ _ h, hd⟩
  · exact .inr h
def RegsAt (K : PySem.W.Frag) (H : Hp) (r : Addr) (rs : List (Int × Int)) : Prop := ∃ ps : List Addr, SqT K H r (ps.map V.ref) ∧ Paired (fun (p : Addr) (x : Int × Int) => H p = some (.tup [.int x.1, .int x.2])) ps rs
def HoldV (K : PySem.W.Frag) (H : Hp) (v : V) : Option (Int × Str) → Prop
  | none => v = .non
  | some (h, w) => ∃ q, v = .ref q ∧ SqT K H q [.int h, .str w] ∧ PyData.strOk w = true
def FenceAt (K : PySem.W.Frag) (H : Hp) (v : V) (rs : List (Int × Int)) (hd : Option (Int × Str)) : Prop := ∃ a r hv, v = .ref a ∧ SqT K H a [.ref r, hv] ∧ RegsAt K H r rs ∧ HoldV K H hv hd
section
variable {K : PySem.W.Frag} {H H' : Hp}
theorem RegsAt.tk {r : Addr} {rs : List (Int × Int)} (h : RegsAt K H r rs) (s : TK H H') : RegsAt K H' r rs := by
  obtain ⟨ps, a, b⟩ := h
  exact ⟨ps, sqT_tk a s, Paired.imp2 (fun _ _ q => s.t _ _ q) b⟩
theorem HoldV.tk {v : V} {hd : Option (Int × Str)} (h : HoldV K H v hd) (s : TK H H') : HoldV K H' v hd := by
  cases hd with
  | none => exact h
  | some x => obtain ⟨q, a, b, c⟩ := h; exact ⟨q, a, sqT_tk b s, c⟩
theorem FenceAt.tk {v : V} {rs : List (Int × Int)} {hd : Option (Int × Str)} (h : FenceAt K H v rs hd) (s : TK H H') : FenceAt K H' v rs hd := by
  obtain ⟨a, r, hv, e, h1, h2, h3⟩ := h
  exact ⟨a, r, hv, e, sqT_tk h1 s, h2.tk s, h3.tk s⟩
end
structure LB (mg : Str → Option Value) : Prop where
  len : mg "len" = none
  abs : mg "abs" = none
  int : mg "int" = none
  list : mg "list" = none
  tuple : mg "tuple" = none
  sorted : mg "sorted" = none
  range : mg "range" = none
/-- [x for x in t if ..]: what is left, in its order -/
theorem lc_filtT {K : PySem.W.Frag} {σ : L2.St} {H1 : Hp} {D a : Addr} {vs : List Nat} {j : Nat} {xs : List V} {tt : TT} {te : TE} {Qd : Hp → Prop} (f : V → Bool) (hD : H1 D = Option.none) (hx : SqT K H1 a xs) (hw : ∀ x, wipe ((wipe σ vs).set j (some x)) vs = wipe σ vs) (hz : xs.length ≤ sizeLine)
    (he : ∀ (x : V) (H' : Hp) (Q' : Bool → Hp → Prop), x ∈ xs → Same H1 H' → (∀ H'', Same H' H'' → Q' (f x) H'') → tt ((wipe σ vs).set j (some x)) H' Q')
    (hv : ∀ (x : V) (H' : Hp) (Q' : VK), x ∈ xs → Q' x H' → te ((wipe σ vs).set j (some x)) H' Q')
    (hd : ∀ H', Same H1 H' → H' D = some (.lst (xs.filter f)) → Qd H') :
    ∃ W : Nat → Nat → Hp → Prop, (∃ m, W 0 m (upd H1 D (.lst []))) ∧ ∀ i m H, W i m H →
      ((Itt K a).stop i H ∧ Qd H) ∨ ((Itt K a).go i H ∧ ∃ Nx : Hp → Prop, (∀ H', Nx H' → ∃ m', m' < m ∧ W (i + 1) m' H') ∧ ∀ x H', (Itt K a).yld i H x H' → gName j x (wipe σ vs) H' fun σ2 H2 => wipe σ2 vs = wipe σ vs ∧ tt σ2 H2 fun b H3 =>
        if b = true then te σ2 H3 fun y H4 => ∃ acc, H4 D = some (.lst acc) ∧ acc.length < sizeLine ∧ Nx (upd H4 D (.lst (acc ++ [y]))) else Nx H3) := by
  refine lc_tup (K := K) (a := a) (xs := xs) (fun i H' => i ≤ xs.length ∧ Same H1 H' ∧ H' D = some (.lst ((xs.take i).filter f))) ⟨Nat.zero_le _, same_new hD, by rw [List.take_zero]; exact upd_same⟩ (fun i H' _ ⟨_, sm, _⟩ => sqT_tk hx (TK.of sm)) ?_ ?_
  · rintro i x H' hi ⟨_, sm, hDl⟩
    have hil := (List.getElem?_eq_some_iff.mp hi).1
    have hm := List.mem_of_getElem? hi
    refine ⟨hw _, he x H' _ hm sm fun H'' s2 => ?_⟩
    have hD2 := s2 _ _ hDl
    have hlen : ((xs.take i).filter f).length ≤ i := Nat.le_trans (List.length_filter_le _ _) (by rw [List.length_take]; omega)
    cases hf : f x with
    | true =>
      rw [if_pos rfl]
      refine hv x H'' _ hm ⟨_, hD2, by omega, by omega, ?_, ?_⟩
      · intro y o hy'
        rw [upd_ne (ne_of_none hy' hD)]
        exact s2 _ _ (sm _ _ hy')
      · rw [upd_same, List.take_add_one, hi, List.filter_append]
        simp [hf]
    | false =>
      rw [if_neg Bool.false_ne_true]
      refine ⟨by omega, sm.trans s2, ?_⟩
      rw [hD2, List.take_add_one, hi, List.filter_append]
      simp [hf]
  · rintro H' ⟨_, sm, hDl⟩
    exact hd H' sm (by rw [List.take_length] at hDl; exact hDl)
/-! ### pairs in the heap -/
def kOf (H : Hp) : V → Int × Int
  | .ref t => match H t with
    | some (.tup [.int i, .int j]) => (i, j)
    | _ => (0, 0)
  | _ => (0, 0)
def PairV (H : Hp) (x : V) : Prop := ∃ t, x = .ref t ∧ H t = some (.tup [.int (kOf H x).1, .int (kOf H x).2])
theorem kOf_at {H : Hp} {t : Addr} {i j : Int} (h : H t = some (.tup [.int i, .int j])) : kOf H (.ref t) = (i, j) := by
  show (match H t with | some (.tup [.int i, .int j]) => (i, j) | _ => ((0 : Int), (0 : Int))) = (i, j)
  rw [h]
theorem pairV_at {H : Hp} {t : Addr} {i j : Int} (h : H t = some (.tup [.int i, .int j])) : PairV H (.ref t) := ⟨t, rfl, by rw [kOf_at h]; exact h⟩
theorem PairV.tk {H H' : Hp} {x : V} (h : PairV H x) (s : TK H H') : PairV H' x ∧ kOf H' x = kOf H x := by
  obtain ⟨t, rfl, e⟩ := h
  have e' := s.t _ _ e
  exact ⟨pairV_at e', kOf_at e'⟩
theorem regs_xs {K : PySem.W.Frag} {H : Hp} {r : Addr} {rs : List (Int × Int)} (h : RegsAt K H r rs) : ∃ xs, SqT K H r xs ∧ (∀ x ∈ xs, PairV H x) ∧ rs = xs.map (kOf H) := by
  obtain ⟨ps, h1, h2⟩ := h
  refine ⟨_, h1, ?_, ?_⟩
  · intro x hx
    obtain ⟨p, hp, rfl⟩ := List.mem_map.mp hx
    clear h1 hx
    induction h2 with
    | nil => cases hp
    | cons r t ih =>
      rcases List.mem_cons.mp hp with rfl | hp
      · exact pairV_at r
      · exact ih hp
  · clear h1
    induction h2 with
    | nil => rfl
    | cons r t ih => rw [List.map_cons, List.map_cons, ← ih, kOf_at r]
theorem xs_pair {H : Hp} : ∀ {xs : List V}, (∀ x ∈ xs, PairV H x) → ∃ ps : List Addr, xs = ps.map V.ref ∧ Paired (fun (p : Addr) (x : Int × Int) => H p = some (.tup [.int x.1, .int x.2])) ps (xs.map (kOf H))
  | [], _ => ⟨[], rfl, .nil⟩
  | x :: xs, h => by
    obtain ⟨ps, e, pr⟩ := xs_pair (xs := xs) fun y hy => h y (List.mem_cons_of_mem _ hy)
    obtain ⟨t, rfl, ht⟩ := h x List.mem_cons_self
    exact ⟨t :: ps, by rw [e]; rfl, .cons ht pr⟩
theorem regs_of {K : PySem.W.Frag} {H : Hp} {r : Addr} {xs : List V} (h1 : SqT K H r xs) (h2 : ∀ x ∈ xs, PairV H x) : RegsAt K H r (xs.map (kOf H)) := by
  obtain ⟨ps, rfl, pr⟩ := xs_pair h2
  exact ⟨ps, h1, pr⟩
theorem regs_len {K : PySem.W.Frag} {H : Hp} {r : Addr} {rs : List (Int × Int)} (h : RegsAt K H r rs) : ∃ ps : List Addr, SqT K H r (ps.map V.ref) ∧ ps.length = rs.length := by
  obtain ⟨ps, h1, h2⟩ := h
  exact ⟨ps, h1, h2.length⟩
def spWithHolder (K : PySem.W.Frag) : Sp := fun vs H Q _ => ∃ fv hv rs hd hd', vs = [fv, hv] ∧ FenceAt K H fv rs hd ∧ HoldV K H hv hd' ∧ ∀ a H', Same H H' → FenceAt K H' (.ref a) rs hd' → Q (.ref a) H'
def outR (rs : List (Int × Int)) (h : Int) : List (Int × Int) := rs.filter fun x => !decide (x.1 = h)
def spWithoutKey (K : PySem.W.Frag) : Sp := fun vs H Q _ => ∃ fv h rs hd, vs = [fv, .int h] ∧ FenceAt K H fv rs hd ∧ rs.length ≤ 1000 ∧ ∀ a H', Same H H' → FenceAt K H' (.ref a) (outR rs h) hd → Q (.ref a) H'
def spWithKey (K : PySem.W.Frag) : Sp := fun vs H Q _ => ∃ fv h k rs hd, vs = [fv, .int h, .int k] ∧ FenceAt K H fv rs hd ∧ rs.length ≤ 999 ∧ ∀ a rs' H', Same H H' → rs'.Perm (outR rs h ++ [(h, k)]) → (rs'.map (·.1)).Pairwise (· ≤ ·) → FenceAt K H' (.ref a) rs' hd → Q (.ref a) H'
section
variable {P : Program} {wrl : World} {K : PySem.W.Frag} {mg : Str → Option Value} {base : Heap} {f fO : Addr} {fd fdO : FuncData}
theorem scWithHolder : FnScope ["fence", "reservation", "registrations", "_"] ["fence", "reservation"] (defScope sWithHolder) := ⟨rfl, rfl, rfl, by decide +kernel, rfl, by decide +kernel, by decide +kernel⟩
theorem ok_withHolder (F : Fun K "with_holder" "with_holder" sWithHolder f fd) : FnOk P wrl K mg base CX0 1 f fd ["fence", "reservation"] (spWithHolder K) := by
  refine F.ok scWithHolder (fun vs H Q E h => ?_) (fun cdv A outer s H vs Q E hr h => ?_)
  · obtain ⟨fv, hv, rs, hd, hd', rfl, _⟩ := h
    rfl
  · obtain ⟨fv, hv', rs, hd, hd', rfl, ⟨a, r, hv, rfl, h1, h2, h4⟩, h5, q⟩ := h
    refine ⟨_, (pss_cons (ps_asg (pv 0) (pg_tup (by rfl) (pgs_cons (pg_name (i := 2) scWithHolder.nd rfl (Or.inl rfl)) (pgs_cons (pg_name (i := 3) scWithHolder.nd rfl (Or.inl rfl)) L2.pgs_nil))))
      (pss_one (ps_ret (pe_tup (pa_cons (pv 2) (pa_cons (pv 1) pa_nil)))))), ?_⟩
    refine ⟨_, rfl, a, _, rfl, h1, rfl, _, _, rfl, _, _, rfl, rfl, ?_⟩
    refine ⟨_, rfl, _, rfl, by show 2 ≤ sizeLine; decide, fun t ht => ?_⟩
    have s := same_new (o := .tup [V.ref r, hv']) ht
    exact q t _ s ⟨t, r, hv', rfl, SqT.of upd_same, h2.tk (TK.of s), h5.tk (TK.of s)⟩
theorem scWithoutKey : FnScope ["fence", "host", "registrations", "reservation", "row"] ["fence", "host"] (defScope sWithoutKey) := ⟨rfl, rfl, rfl, by decide +kernel, rfl, by decide +kernel, by decide +kernel⟩
theorem ok_withoutKey (F : Fun K "without_key" "without_key" sWithoutKey f fd) (B : LB mg) : FnOk P wrl K mg base CX0 1 f fd ["fence", "host"] (spWithoutKey K) := by
  refine F.ok scWithoutKey (fun vs H Q E h => ?_) (fun cdv A outer s H vs Q E hr h => ?_)
  · obtain ⟨fv, h, rs, hd, rfl, _⟩ := h
    rfl
  · obtain ⟨fv, h, rs, hd, rfl, ⟨a, r, hv, rfl, h1, h2, h4⟩, hl, q⟩ := h
    refine ⟨_, (pss_cons (ps_asg (pv 0) (pg_tup (by rfl) (pgs_cons (pg_name (i := 2) scWithoutKey.nd rfl (Or.inl rfl)) (pgs_cons (pg_name (i := 3) scWithoutKey.nd rfl (Or.inl rfl)) L2.pgs_nil))))
      (pss_one (ps_ret (pe_tup (pa_cons (pe_callTy call_tupP (by rfl) B.tuple (by decide +kernel) (pa_cons (pe_lc (own := [("row", 4)]) (g := gName 4) (tt := tTest (tOp rNe (tOp (rIxT K) (tVar 4) (tC (.int 0))) (tVar 1))) (te := tVar 4) (by rfl) scWithoutKey.nd (pi_tup (pv 2)) (blkOk_by (own := [("row", 4)]) (N := ["fence", "host", "registrations", "reservation", "row"]) (sc := defScope sWithoutKey) (by decide +kernel)) (fun _ _ _ _ _ => pg_name (i := 4) scWithoutKey.nd rfl (Or.inl rfl)) (fun _ _ _ _ _ => pts_one (pt_cmpR op_ne (pe_ix ix_tup (pv 4) pe_int (fun _ _ => rfl)) (pv 1) (nomark _))) (fun _ _ _ _ _ => by exact (pv 4))) pa_nil)) (pa_cons (pv 3) pa_nil)))))), ?_⟩
    refine ⟨_, rfl, a, _, rfl, h1, rfl, _, _, rfl, _, _, rfl, rfl, ?_⟩
    obtain ⟨xs, g1, g2, rfl⟩ := regs_xs h2
    rw [List.length_map] at hl
    refine ⟨_, rfl, r, rfl, ⟨_, g1⟩, fun D hD => ?_⟩
    refine lc_filtT (fun x => !decide ((kOf H x).1 = h)) hD g1 (fun _ => rfl) (Nat.le_of_lt (small1000 hl)) (fun x H' Q' hm sm k => ?_) (fun x H' Q' hm k => ⟨_, rfl, k⟩) fun H' sm hDl => ?_
    · obtain ⟨t, rfl, ht⟩ := g2 x hm
      refine ⟨_, rfl, t, _, _, _, rfl, rfl, SqT.of (sm _ _ ht), atI_nat (j := 0) rfl, _, rfl, rfl, _, rfl, ?_⟩
      have e : decide (V.int (kOf H (.ref t)).1 = V.int h) = decide ((kOf H (.ref t)).1 = h) := by
        by_cases z : (kOf H (.ref t)).1 = h
        · rw [decide_eq_true z, decide_eq_true (show V.int _ = V.int h by rw [z])]
        · rw [decide_eq_false z, decide_eq_false (show ¬ V.int _ = V.int h from fun y => z (by injection y))]
      rw [e]
      exact k H' (Same.refl H')
    · refine ⟨D, _, rfl, SqL.of hDl, fun u o hu od => ?_⟩
      have s2 := sm.trans (same_new (o := .frz o (.tup (xs.filter fun x => !decide ((kOf H x).1 = h)))) hu)
      refine ⟨_, rfl, by show 2 ≤ sizeLine; decide, fun t ht => ?_⟩
      have s3 := s2.trans (same_new (o := .tup [V.ref u, hv]) ht)
      refine q t _ s3 ⟨t, u, hv, rfl, SqT.of upd_same, ?_, h4.tk (TK.of s3)⟩
      have pv := fun x (hx : x ∈ xs.filter fun x => !decide ((kOf H x).1 = h)) => (g2 x ((List.mem_filter.mp hx).1)).tk (TK.of s3)
      have rg := regs_of (K := K) (.inl (.inr ⟨o, (same_new (o := .tup [V.ref u, hv]) ht) _ _ upd_same⟩)) (fun x hx => (pv x hx).1)
      have e : (xs.filter fun x => !decide ((kOf H x).1 = h)).map (kOf H) = outR (xs.map (kOf H)) h := by
        unfold outR
        rw [List.filter_map]
        rfl
      rw [List.map_congr_left (fun x hx => (pv x hx).2), e] at rg
      exact rg
theorem scWithKey : FnScope ["fence", "host", "key", "registrations", "reservation"] ["fence", "host", "key"] (defScope sWithKey) := ⟨rfl, rfl, rfl, by decide +kernel, rfl, by decide +kernel, by decide +kernel⟩
theorem ok_withKey (F : Fun K "with_key" "with_key" sWithKey f fd) (B : LB mg) (GO : Def P wrl K mg base CX0 "without_key" 1 ["fence", "host"] (spWithoutKey K) fO fdO) : FnOk P wrl K mg base CX0 2 f fd ["fence", "host", "key"] (spWithKey K) := by
  refine F.ok scWithKey (fun vs H Q E h => ?_) (fun cdv A outer s H vs Q E hr h => ?_)
  · obtain ⟨fv, h, k, rs, hd, rfl, _⟩ := h
    rfl
  · obtain ⟨fv, h, k, rs, hd, rfl, FA, hl, q⟩ := h
    refine ⟨_, (pss_cons (ps_asg (pe_call GO.ok hr (by rfl) GO.mg GO.kp GO.bd .nil pass0 (pa_cons (pv 0) (pa_cons (pv 1) pa_nil))) (pg_tup (by rfl) (pgs_cons (pg_name (i := 3) scWithKey.nd rfl (Or.inl rfl)) (pgs_cons (pg_name (i := 4) scWithKey.nd rfl (Or.inl rfl)) L2.pgs_nil))))
      (pss_one (ps_ret (pe_tup (pa_cons (pe_callTy call_tupP (by rfl) B.tuple (by decide +kernel) (pa_cons (pe_callB cr_sortedPO (by rfl) B.sorted (by decide +kernel) (pa_cons (pe_lst (StX.pa_star (pv 3) (pa_cons (pe_tup (pa_cons (pv 1) (pa_cons (pv 2) pa_nil))) pa_nil))) pa_nil)) pa_nil)) (pa_cons (pv 4) pa_nil)))))), ?_⟩
    refine ⟨_, rfl, _, rfl, fv, h, rs, hd, rfl, FA, by omega, fun a H1 s1 ⟨a', r, hv, ea, h1, h2, h4⟩ => ?_⟩
    cases ea
    refine ⟨a, _, rfl, h1, rfl, _, _, rfl, _, _, rfl, rfl, ?_⟩
    obtain ⟨xs, g1, g2, e⟩ := regs_xs h2
    have hxl : xs.length ≤ 999 := by
      have e2 := congrArg List.length e
      rw [List.length_map] at e2
      rw [← e2]
      exact Nat.le_trans (List.length_filter_le _ _) hl
    refine ⟨_, rfl, r, xs, rfl, .inl g1, _, rfl, _, rfl, by show 2 ≤ sizeLine; decide, fun t ht => ?_⟩
    have s2 := same_new (o := .tup [V.int h, V.int k]) ht
    have pv := fun x (hx : x ∈ xs) => (g2 x hx).tk (TK.of s2)
    refine ⟨by rw [List.length_append]; exact Nat.le_of_lt (small1000 (by simp only [List.length_cons, List.length_nil]; omega)), fun l hl => ?_⟩
    have s3 := same_new (o := .lst (xs ++ [V.ref t])) hl
    have pt : ∀ x ∈ xs ++ [V.ref t], PairV (upd H1 t (.tup [V.int h, V.int k])) x := fun x hx => by
      rcases List.mem_append.mp hx with hx | hx
      · exact (pv x hx).1
      · rw [List.mem_singleton.mp hx]; exact pairV_at upd_same
    have p3 := fun x (hx : x ∈ xs ++ [V.ref t]) => (pt x hx).tk (TK.of s3)
    refine ⟨l, _, kOf (upd (upd H1 t (.tup [V.int h, V.int k])) l (.lst (xs ++ [V.ref t]))), rfl, SqL.of upd_same, fun x hx => (p3 x hx).1, fun ys l2 so st hl2 => ?_⟩
    have s4 := same_new (o := .lst ys) hl2
    refine ⟨l2, _, rfl, SqL.of upd_same, fun u o hu od => ?_⟩
    have s5 := same_new (o := .frz o (.tup ys)) hu
    refine ⟨_, rfl, by show 2 ≤ sizeLine; decide, fun t3 ht3 => ?_⟩
    have s6 := same_new (o := .tup [V.ref u, hv]) ht3
    have s36 := s3.trans (s4.trans (s5.trans s6))
    have s16 := s1.trans (s2.trans s36)
    have my : ∀ y ∈ ys, y ∈ xs ++ [V.ref t] := fun y hy => st.perm.mem_iff.mp hy
    have p6 := fun y (hy : y ∈ ys) => (pt y (my y hy)).tk (TK.of s36)
    have rg := regs_of (K := K) (.inl (.inr ⟨o, s6 _ _ upd_same⟩)) (fun y hy => (p6 y hy).1)
    rw [List.map_congr_left (fun y hy => (p6 y hy).2)] at rg
    refine q t3 (ys.map (kOf (upd H1 t (.tup [V.int h, V.int k])))) _ s16 ?_ ?_ ⟨t3, u, hv, rfl, SqT.of upd_same, rg, h4.tk (TK.of (s2.trans s36))⟩
    · refine (st.perm.map _).trans ?_
      rw [List.map_append, List.map_congr_left (fun x hx => (pv x hx).2), ← e]
      rw [show List.map (kOf (upd H1 t (.tup [V.int h, V.int k]))) [V.ref t] = [(h, k)] by rw [List.map_cons, kOf_at upd_same]; rfl]
    · rw [List.map_map, List.pairwise_map]
      refine List.Pairwise.imp_of_mem (fun {x y} hx hy hxy => ?_) so
      have a1 := SrtO.lexB_no.mp hxy
      rw [(p3 x (my x hx)).2, (p3 y (my y hy)).2] at a1
      show (kOf _ x).1 ≤ (kOf _ y).1
      omega
end
end Sg

set_option Elab.async false
set_option linter.all false
set_option maxRecDepth 100000
set_option maxHeartbeats 4000000
namespace Sg
open PySem PySem.Spec PyProof.Rows L2
/-! ### _changed: a table with a name put anew at its end, or without it -/
def chg {κ : Type} [DecidableEq κ] (l : List (κ × V)) (k : κ) (z : V) : List (κ × V) := if z = .non then dropK l k else dropK l k ++ [(k, z)]
def ChIn {K : PySem.W.Frag} {κ : Type} [DecidableEq κ] (T : TKd K κ) (vs : List V) (H : Hp) (Q : VK) : Prop := ∃ (d : Addr) (y z : V) (l : List (κ × V)) (k : κ), vs = [.ref d, y, z] ∧ H d = some (T.ho l) ∧ T.at' H y k ∧ T.ok k ∧ (∀ p ∈ l, T.ok p.1) ∧ (l.map (·.1)).Nodup ∧ l.length ≤ 1000 ∧
  ∀ D H', Same H H' → H D = none → H' D = some (T.ho (chg l k z)) → Q (.ref D) H'
def spChanged (K : PySem.W.Frag) : Sp := fun vs H Q _ => ChIn (kdK K) vs H Q ∨ ChIn (kdT K) vs H Q
theorem chooseF {b : Bool} {A B : Prop} (h : b = false) (x : B) : (if b = true then A else B) := by rw [h]; exact x
theorem chooseT {b : Bool} {A B : Prop} (h : b = true) (x : A) : (if b = true then A else B) := by rw [if_pos h]; exact x
theorem u0_of {k : Nat} {A : Around} (hr : Room k A) : A.units < cLine := by have := hr.un; omega
theorem u64_of {k : Nat} {A : Around} (hr : Room k A) : A.units + 64 < cLine := by have := hr.un; omega
theorem drop_valV {κ : Type} [DecidableEq κ] {l : List (κ × V)} {k : κ} : valV (dropK l k) k = none := valV_none fun p hp => by
  have := (List.mem_filter.mp hp).2
  simpa using this
section
variable {P : Program} {wd : World} {K : PySem.W.Frag} {mg : Str → Option Value} {base : Heap} {f fC : Addr} {fd fdC : FuncData}
theorem scChanged : FnScope ["table", "name", "value", "changed", "other"] ["table", "name", "value"] (defScope sChanged) := ⟨rfl, rfl, rfl, by decide +kernel, rfl, by decide +kernel, by decide +kernel⟩
theorem ok_changed (F : Fun K "_changed" "_changed" sChanged f fd) : FnOk P wd K mg base CX0 1 f fd ["table","name","value"] (spChanged K) := by
  refine F.ok scChanged (fun vs H Q E h => ?_) (fun cdv A outer s H vs Q E hr h => ?_)
  · rcases h with ⟨d, y, z, l, k, rfl, _⟩ | ⟨d, y, z, l, k, rfl, _⟩ <;> rfl
  · refine ⟨_, (pss_cons (ps_lock (ps_setDcP (i := 3) (own := [("other", 4)]) (g := gName 4) (tt := tTest (tOp (rNeD K) (tVar 4) (tVar 1))) (tk := tVar 4) (tv := tDGet (tVar 0) (tVar 4)) (by rfl) (u0_of hr) scChanged.nd rfl rfl (sw_dc rfl rfl rfl (by decide +kernel)) (pi_keys (pv 0)) (blkOk_by (own := [("other", 4)]) (N := ["table", "name", "value", "changed", "other"]) (sc := defScope sChanged) (by decide +kernel)) ⟨fun _ _ _ _ _ => pg_name (i := 4) scChanged.nd rfl (Or.inl rfl), fun _ _ _ _ _ => pts_one (by exact (pt_cmpR (op_neD (u64_of hr)) (pv 4) (pv 1) (by rfl))), fun _ _ _ _ _ => by exact (pv 4), fun _ _ _ _ _ => by exact (pe_dget (hu_of hr) (pv 0) (pv 4) (fun _ _ => rfl))⟩))
      (pss_cons (ps_if (pt_cmpR op_notN (pv 2) pe_non (nomark _))
      (pss_one (ps_dput (hu_of hr) (pv 3) (pv 1) (pv 2) rfl)) pss_nil)
      (pss_one (ps_ret (pv 3))))), ?_⟩
    rcases h with ⟨d, y, z, l, k, rfl, hd, hk, ok0, ok, nd, hl, q⟩ | ⟨d, y, z, l, k, rfl, hd, hk, ok0, ok, nd, hl, q⟩
    · refine keep_ts (kdK K) (show 4 < 5 by decide) (by decide) (by decide) rfl rfl hd hk ok0 ok nd hl fun D H1 s1 hD hD1 => ?_
      have hk1 : (kdK K).at' H1 y k := (kdK K).tk (TK.of s1) hk
      refine ⟨_, rfl, rfl, _, rfl, ?_⟩
      by_cases c : z = .non
      · refine chooseF (by simp [c]) ?_
        refine ⟨_, rfl, q D H1 s1 hD ?_⟩
        rw [hD1, chg, if_pos c]
      · refine chooseT (by simp [c]) ?_
        refine ⟨_, rfl, _, rfl, _, rfl, D, _, rfl, (kdK K).put hD1 hk1 (small1000 (Nat.le_trans dropK_len hl)), _, rfl, q D _ (fun b o e => ?_) hD ?_⟩
        · have : b ≠ D := fun w => by rw [w, hD] at e; cases e
          rw [upd_ne this]; exact s1 _ _ e
        · rw [putK_new z drop_valV, chg, if_neg c]; exact upd_same
    · refine keep_ts (kdT K) (show 4 < 5 by decide) (by decide) (by decide) rfl rfl hd hk ok0 ok nd hl fun D H1 s1 hD hD1 => ?_
      have hk1 : (kdT K).at' H1 y k := (kdT K).tk (TK.of s1) hk
      refine ⟨_, rfl, rfl, _, rfl, ?_⟩
      by_cases c : z = .non
      · refine chooseF (by simp [c]) ?_
        refine ⟨_, rfl, q D H1 s1 hD ?_⟩
        rw [hD1, chg, if_pos c]
      · refine chooseT (by simp [c]) ?_
        refine ⟨_, rfl, _, rfl, _, rfl, D, _, rfl, (kdT K).put hD1 hk1 (small1000 (Nat.le_trans dropK_len hl)), _, rfl, q D _ (fun b o e => ?_) hD ?_⟩
        · have : b ≠ D := fun w => by rw [w, hD] at e; cases e
          rw [upd_ne this]; exact s1 _ _ e
        · rw [putK_new z drop_valV, chg, if_neg c]; exact upd_same
end
end Sg

set_option Elab.async false
set_option linter.all false
set_option maxRecDepth 100000
set_option maxHeartbeats 4000000
namespace Sg
open PySem PySem.Spec PyProof.Rows L2
/-! ### states, as data -/
abbrev Cells := List (Int × Int)
structure Spc where
  z : Int
  cs : Cells
  rg : List (Int × Int)
  hd : Option (Int × Str)
structure Mrk where
  s : Int
  c : Int
  an : PyData
  td : PyData
structure Sta where
  o : Int
  sp : List (Int × Spc)
  sn : List ((Int × Int) × Cells)
  mr : List (Int × Mrk)
def delI {α β : Type} [DecidableEq α] (l : List (α × β)) (k : α) : List (α × β) := l.filter fun p => decide (p.1 ≠ k)
def putI {α β : Type} [DecidableEq α] (l : List (α × β)) (k : α) (v : β) : List (α × β) := delI l k ++ [(k, v)]
def setI {α β : Type} [DecidableEq α] (l : List (α × β)) (k : α) : Option β → List (α × β)
  | none => delI l k
  | some v => putI l k v
def holdD : Option (Int × Str) → PyData
  | none => .none
  | some (h, w) => .tuple [.int h, .str w]
def rowD (p : Int × Int) : PyData := .tuple [.int p.1, .int p.2]
def fenceD (rg : List (Int × Int)) (hd : Option (Int × Str)) : PyData := .tuple [.tuple (rg.map rowD), holdD hd]
def markD (m : Mrk) : PyData := .tuple [.int m.s, .int m.c, m.an, m.td]
section
variable {K : PySem.W.Frag} {κ α β : Type} [DecidableEq κ] [DecidableEq α]
def TabAt (T : TKd K κ) (R : Hp → V → β → Prop) (emb : α → κ) (H : Hp) (d : Addr) (l : List (α × β)) : Prop := ∃ kvs, H d = some (T.ho kvs) ∧ Paired (fun (p : κ × V) (q : α × β) => p.1 = emb q.1 ∧ R H p.2 q.2) kvs l ∧ (l.map (·.1)).Nodup
theorem TabAt.same {T : TKd K κ} {R : Hp → V → β → Prop} {emb : α → κ} {H H' : Hp} {d : Addr} {l : List (α × β)} (hR : ∀ x v, R H x v → R H' x v) (s : Same H H') (h : TabAt T R emb H d l) : TabAt T R emb H' d l := by
  obtain ⟨kvs, a, b, c⟩ := h
  exact ⟨kvs, s _ _ a, Paired.imp2 (fun p q z => ⟨z.1, hR _ _ z.2⟩) b, c⟩
theorem pr_keys {R : V → β → Prop} {emb : α → κ} : ∀ {kvs : List (κ × V)} {l : List (α × β)}, Paired (fun (p : κ × V) (q : α × β) => p.1 = emb q.1 ∧ R p.2 q.2) kvs l → kvs.map (·.1) = l.map fun q => emb q.1
  | _, _, .nil => rfl
  | _, _, .cons h t => by rw [List.map_cons, List.map_cons, h.1, pr_keys t]
theorem pr_nodup {R : V → β → Prop} {emb : α → κ} (he : ∀ a b, emb a = emb b → a = b) {kvs : List (κ × V)} {l : List (α × β)} (h : Paired (fun (p : κ × V) (q : α × β) => p.1 = emb q.1 ∧ R p.2 q.2) kvs l) (nd : (l.map (·.1)).Nodup) : (kvs.map (·.1)).Nodup := by
  rw [pr_keys h, show (l.map fun q => emb q.1) = (l.map (·.1)).map emb from by rw [List.map_map]; rfl]
  exact List.Pairwise.map emb (fun a b n e => n (he _ _ e)) nd
theorem pr_drop {R : V → β → Prop} {emb : α → κ} (he : ∀ a b, emb a = emb b → a = b) {k : α} : ∀ {kvs : List (κ × V)} {l : List (α × β)}, Paired (fun (p : κ × V) (q : α × β) => p.1 = emb q.1 ∧ R p.2 q.2) kvs l → Paired (fun (p : κ × V) (q : α × β) => p.1 = emb q.1 ∧ R p.2 q.2) (dropK kvs (emb k)) (delI l k)
  | _, _, .nil => .nil
  | p :: kvs, q :: l, .cons h t => by
    have r := pr_drop he (k := k) t
    unfold dropK delI at r ⊢
    by_cases c : q.1 = k
    · rw [List.filter_cons_of_neg (by simp [h.1, c]), List.filter_cons_of_neg (by simp [c])]; exact r
    · rw [List.filter_cons_of_pos (by simp only [decide_eq_true_eq, ne_eq]; exact fun e => c (he _ _ (h.1.symm.trans e))), List.filter_cons_of_pos (by simp [c])]; exact .cons h r
theorem pr_snoc {γ δ : Type} {R : γ → δ → Prop} {x : γ} {y : δ} (h : R x y) : ∀ {a : List γ} {b : List δ}, Paired R a b → Paired R (a ++ [x]) (b ++ [y])
  | _, _, .nil => .cons h .nil
  | _, _, .cons r t => .cons r (pr_snoc h t)
theorem del_nodup {l : List (α × β)} {k : α} (nd : (l.map (·.1)).Nodup) : ((delI l k).map (·.1)).Nodup := List.Nodup.sublist (List.Sublist.map _ List.filter_sublist) nd
theorem put_nodup {l : List (α × β)} {k : α} {v : β} (nd : (l.map (·.1)).Nodup) : ((putI l k v).map (·.1)).Nodup := by
  unfold putI
  rw [List.map_append, List.nodup_append]
  refine ⟨del_nodup nd, by simp, fun a ha b hb e => ?_⟩
  obtain ⟨p, hp, rfl⟩ := List.mem_map.mp ha
  have := (List.mem_filter.mp hp).2
  simp at hb this
  exact this (e.trans hb)
theorem set_nodup {l : List (α × β)} {k : α} {v : Option β} (nd : (l.map (·.1)).Nodup) : ((setI l k v).map (·.1)).Nodup := by
  cases v with
  | none => exact del_nodup nd
  | some v => exact put_nodup nd
theorem del_len {l : List (α × β)} {k : α} : (delI l k).length ≤ l.length := List.length_filter_le _ _
theorem set_len {l : List (α × β)} {k : α} {v : Option β} : (setI l k v).length ≤ l.length + 1 := by
  have := del_len (l := l) (k := k)
  cases v with
  | none => exact Nat.le_succ_of_le this
  | some v => show (delI l k ++ [(k, v)]).length ≤ _; rw [List.length_append]; simp; exact this
/-- what is put: none, or the thing -/
def OptAt (R : Hp → V → β → Prop) (H : Hp) (z : V) : Option β → Prop
  | none => z = .non
  | some v => z ≠ .non ∧ R H z v
theorem pr_set {R : V → β → Prop} {emb : α → κ} (he : ∀ a b, emb a = emb b → a = b) {k : α} {z : V} {v : Option β} (hz : match v with | none => z = .non | some v => z ≠ .non ∧ R z v) {kvs : List (κ × V)} {l : List (α × β)} (h : Paired (fun (p : κ × V) (q : α × β) => p.1 = emb q.1 ∧ R p.2 q.2) kvs l) :
    Paired (fun (p : κ × V) (q : α × β) => p.1 = emb q.1 ∧ R p.2 q.2) (chg kvs (emb k) z) (setI l k v) := by
  unfold chg
  cases v with
  | none => rw [if_pos hz]; exact pr_drop he h
  | some v => rw [if_neg hz.1]; exact pr_snoc ⟨rfl, hz.2⟩ (pr_drop he h)
end
def eP (p : Int × Int) : List Key := [.inl p.1, .inl p.2]
theorem eP_inj : ∀ a b, eP a = eP b → a = b := fun a b e => by
  unfold eP at e
  simp only [List.cons.injEq, Sum.inl.injEq, and_true] at e
  exact Prod.ext e.1 e.2
abbrev eI : Int → Key := Sum.inl
theorem eI_inj : ∀ a b, eI a = eI b → a = b := fun a b e => Sum.inl.inj e
section
variable (K : PySem.W.Frag)
def CellAt (H : Hp) (c : Addr) (cs : Cells) : Prop := TabAt (kdK K) (fun _ x v => x = .int v) eI H c cs
def SpcAt (H : Hp) (v : V) (s : Spc) : Prop := ∃ a c f, v = .ref a ∧ SqT K H a [.int s.z, .ref c, f] ∧ CellAt K H c s.cs ∧ FenceAt K H f s.rg s.hd
def SnpAt (H : Hp) (v : V) (cs : Cells) : Prop := ∃ c, v = .ref c ∧ CellAt K H c cs
def MrkAt (H : Hp) (v : V) (m : Mrk) : Prop := Dp K H v (markD m)
def stK (o : Int) (b1 b2 b3 : Addr) : List (Key × V) := [(.inr "order", .int o), (.inr "spaces", .ref b1), (.inr "snaps", .ref b2), (.inr "marks", .ref b3)]
def StAt (H : Hp) (a : Addr) (st : Sta) : Prop := ∃ b1 b2 b3, H a = some (.dK (stK st.o b1 b2 b3)) ∧ TabAt (kdK K) (SpcAt K) eI H b1 st.sp ∧ TabAt (kdT K) (SnpAt K) eP H b2 st.sn ∧ TabAt (kdK K) (MrkAt K) eI H b3 st.mr
end
section
variable {K : PySem.W.Frag} {H H' : Hp}
theorem CellAt.same {c : Addr} {cs : Cells} (h : CellAt K H c cs) (s : Same H H') : CellAt K H' c cs := TabAt.same (fun _ _ z => z) s h
theorem SpcAt.same {v : V} {p : Spc} (h : SpcAt K H v p) (s : Same H H') : SpcAt K H' v p := by
  obtain ⟨a, c, f, e, h1, h2, h3⟩ := h
  exact ⟨a, c, f, e, SqT_same s h1, h2.same s, h3.tk (TK.of s)⟩
theorem SnpAt.same {v : V} {p : Cells} (h : SnpAt K H v p) (s : Same H H') : SnpAt K H' v p := by
  obtain ⟨c, e, h1⟩ := h
  exact ⟨c, e, h1.same s⟩
theorem MrkAt.same {v : V} {p : Mrk} (h : MrkAt K H v p) (s : Same H H') : MrkAt K H' v p := dp_same s _ _ h
theorem StAt.same {a : Addr} {st : Sta} (h : StAt K H a st) (s : Same H H') : StAt K H' a st := by
  obtain ⟨b1, b2, b3, e, h1, h2, h3⟩ := h
  exact ⟨b1, b2, b3, s _ _ e, TabAt.same (fun _ _ z => z.same s) s h1, TabAt.same (fun _ _ z => z.same s) s h2, TabAt.same (fun _ _ z => z.same s) s h3⟩
theorem SpcAt.ref {v : V} {p : Spc} (h : SpcAt K H v p) : v ≠ .non := by
  obtain ⟨a, c, f, e, _⟩ := h
  rw [e]; exact fun z => nomatch z
theorem SnpAt.ref {v : V} {p : Cells} (h : SnpAt K H v p) : v ≠ .non := by
  obtain ⟨a, e, _⟩ := h
  rw [e]; exact fun z => nomatch z
theorem MrkAt.ref {v : V} {p : Mrk} (h : MrkAt K H v p) : v ≠ .non := by
  unfold MrkAt markD at h
  cases h
  exact fun z => nomatch z
end
end Sg

set_option Elab.async false
set_option linter.all false
set_option maxRecDepth 100000
set_option maxHeartbeats 4000000
namespace Sg
open PySem PySem.Spec PyProof.Rows L2
/-! ### _with_entry -/
theorem merge_st {o : Int} {b1 b2 b3 : Addr} : mergeK [] (stK o b1 b2 b3) = stK o b1 b2 b3 := rfl
theorem put_o {o n : Int} {b1 b2 b3 : Addr} : putK (stK o b1 b2 b3) (.inr "order") (.int n) = stK n b1 b2 b3 := rfl
theorem put_sp {o : Int} {b1 b2 b3 n : Addr} : putK (stK o b1 b2 b3) (.inr "spaces") (.ref n) = stK o n b2 b3 := rfl
theorem put_sn {o : Int} {b1 b2 b3 n : Addr} : putK (stK o b1 b2 b3) (.inr "snaps") (.ref n) = stK o b1 n b3 := rfl
theorem put_mr {o : Int} {b1 b2 b3 n : Addr} : putK (stK o b1 b2 b3) (.inr "marks") (.ref n) = stK o b1 b2 n := rfl
theorem val_sp {o : Int} {b1 b2 b3 : Addr} : valV (stK o b1 b2 b3) (.inr "spaces") = some (.ref b1) := rfl
theorem val_sn {o : Int} {b1 b2 b3 : Addr} : valV (stK o b1 b2 b3) (.inr "snaps") = some (.ref b2) := rfl
theorem val_mr {o : Int} {b1 b2 b3 : Addr} : valV (stK o b1 b2 b3) (.inr "marks") = some (.ref b3) := rfl
inductive Ed
  | sp (n : Int) (v : Option Spc) | sn (k : Int × Int) (v : Option Cells) | mr (n : Int) (v : Mrk)
def edS : Ed → Sta → Sta
  | .sp n v, st => { st with sp := setI st.sp n v }
  | .sn k v, st => { st with sn := setI st.sn k v }
  | .mr n v, st => { st with mr := putI st.mr n v }
def edPart : Ed → Str
  | .sp _ _ => "spaces" | .sn _ _ => "snaps" | .mr _ _ => "marks"
def PairAt (H : Hp) (y : V) (k : Int × Int) : Prop := ∃ b, y = .ref b ∧ H b = some (.tup [.int k.1, .int k.2])
def EdAt (K : PySem.W.Frag) (H : Hp) (y z : V) : Ed → Prop
  | .sp n v => y = .int n ∧ OptAt (SpcAt K) H z v
  | .sn k v => PairAt H y k ∧ OptAt (SnpAt K) H z v
  | .mr n v => y = .int n ∧ MrkAt K H z v
structure SmallS (n : Nat) (st : Sta) : Prop where
  sp : st.sp.length ≤ n
  sn : st.sn.length ≤ n
  mr : st.mr.length ≤ n
  cs : ∀ p ∈ st.sp, p.2.cs.length ≤ n
  cn : ∀ p ∈ st.sn, p.2.length ≤ n
/-- what is new between two heaps stands in a third -/
def New (H H' H'' : Hp) : Prop := ∀ b u, H' b = some u → H b = none → H'' b = some u
def spWithEntry (K : PySem.W.Frag) : Sp := fun vs H Q _ => ∃ (H0 : Hp) (a : Addr) (st : Sta) (ed : Ed) (y z : V), vs = [.ref a, .str (edPart ed), y, z] ∧ Same H0 H ∧ StAt K H0 a st ∧ SmallS 1000 st ∧ EdAt K H0 y z ed ∧
  ∀ D H', Same H H' → H D = none → (∀ H'', Same H0 H'' → New H H' H'' → StAt K H'' D (edS ed st)) → Q (.ref D) H'
section
variable {K : PySem.W.Frag} {κ α β : Type} [DecidableEq κ] [DecidableEq α]
/-- a table's call of _changed, by its data -/
theorem ch_tab (T : TKd K κ) {R : Hp → V → β → Prop} {emb : α → κ} (he : ∀ a b, emb a = emb b → a = b) (hok : ∀ a, T.ok (emb a)) (hR : ∀ {H H' : Hp} {x v}, Same H H' → R H x v → R H' x v) {H : Hp} {d : Addr} {l : List (α × β)} {k : α} {y z : V} {v : Option β} {Q : VK}
    (h : TabAt T R emb H d l) (hl : l.length ≤ 1000) (hk : T.at' H y (emb k)) (hz : OptAt R H z v) (q : ∀ D H', Same H H' → H D = none → TabAt T R emb H' D (setI l k v) → Q (.ref D) H') : ChIn T [.ref d, y, z] H Q := by
  obtain ⟨kvs, hd, pr, nd⟩ := h
  refine ⟨d, y, z, kvs, emb k, rfl, hd, hk, hok k, fun p hp => ?_, pr_nodup he (R := R H) pr nd, by rw [Paired.length pr]; exact hl, fun D H' s hD hDn => q D H' s hD ⟨_, hDn, ?_, set_nodup nd⟩⟩
  · obtain ⟨j, hj⟩ := List.mem_iff_getElem?.mp hp
    obtain ⟨q, _, hq⟩ := paired_at pr hj
    rw [hq.1]; exact hok _
  · refine pr_set he (R := R H') ?_ (Paired.imp2 (fun p q z => ⟨z.1, hR s z.2⟩) pr)
    cases v with
    | none => exact hz
    | some v => exact ⟨hz.1, hR s hz.2⟩
theorem TabAt.off {T : TKd K κ} {R : Hp → V → β → Prop} {emb : α → κ} {H H' : Hp} {d : Addr} {l : List (α × β)} (h : TabAt T R emb H d l) (e : ∀ o, H d = some o → H' d = some o) (hR : ∀ x v, R H x v → R H' x v) : TabAt T R emb H' d l := by
  obtain ⟨kvs, a, b, c⟩ := h
  exact ⟨kvs, e _ a, Paired.imp2 (fun p q z => ⟨z.1, hR _ _ z.2⟩) b, c⟩
end
theorem TabAt.frz {K : PySem.W.Frag} {κ α β : Type} [DecidableEq κ] [DecidableEq α] {T : TKd K κ} {R : Hp → V → β → Prop} {emb : α → κ} {H H' : Hp} {d : Addr} {l : List (α × β)} (h : TabAt T R emb H d l) (s : Same H H') : TabAt T (fun _ => R H) emb H' d l := by
  obtain ⟨kvs, a, b, c⟩ := h
  exact ⟨kvs, s _ _ a, b, c⟩
theorem TabAt.thaw {K : PySem.W.Frag} {κ α β : Type} [DecidableEq κ] [DecidableEq α] {T : TKd K κ} {R : Hp → V → β → Prop} {emb : α → κ} {H0 H H' : Hp} {d : Addr} {l : List (α × β)} (h : TabAt T (fun _ => R H0) emb H d l) (e : ∀ u, H d = some u → H' d = some u) (hR : ∀ x v, R H0 x v → R H' x v) : TabAt T R emb H' d l := by
  obtain ⟨kvs, a, b, c⟩ := h
  exact ⟨kvs, e _ a, Paired.imp2 (fun p q z => ⟨z.1, hR _ _ z.2⟩) b, c⟩
theorem okI {K : PySem.W.Frag} : ∀ a, (kdK K).ok (eI a) := fun a x hx s e => by
  rw [List.mem_singleton.mp hx] at e; cases e
theorem okP {K : PySem.W.Frag} : ∀ a, (kdT K).ok (eP a) := fun a x hx s e => by
  unfold eP at hx
  simp at hx
  rcases hx with rfl | rfl <;> cases e
end Sg

set_option Elab.async false
set_option linter.all false
set_option maxRecDepth 100000
set_option maxHeartbeats 4000000
namespace Sg
open PySem PySem.Spec PyProof.Rows L2
section
variable {P : Program} {wd : World} {K : PySem.W.Frag} {mg : Str → Option Value} {base : Heap} {f fC : Addr} {fd fdC : FuncData}
theorem scWithEntry : FnScope ["state", "part", "name", "value"] ["state", "part", "name", "value"] (defScope sWithEntry) := ⟨rfl, rfl, rfl, by decide +kernel, rfl, by decide +kernel, by decide +kernel⟩
/-- the display {**t1, tk: tv} over a state's dict -/
theorem star_gen {σ : L2.St} {H : Hp} {Q : VK} {t1 tk tv : TE} {part : Str} {Pa : Int → Addr → Addr → Addr → Hp → Hp → Prop} {Tz : V → Hp → Hp → Prop}
    (h1 : ∀ D, H D = none → ∀ R : VK, (∀ a o b1 b2 b3 H1, Same (upd H D (.dK [])) H1 → H1 a = some (.dK (stK o b1 b2 b3)) → Pa o b1 b2 b3 (upd H D (.dK [])) H1 → R (.ref a) H1) → t1 σ (upd H D (.dK [])) R)
    (hk : ∀ (G : Hp) (R : VK), R (.str part) G → tk σ G R)
    (hv : ∀ o b1 b2 b3 G H1 H2 (R : VK), Pa o b1 b2 b3 G H1 → Same H G → (∀ b u, H1 b = some u → G b = none → H2 b = some u) → Same H H2 → (∀ z H3, Same H2 H3 → Tz z H2 H3 → R z H3) → tv σ H2 R)
    (q : ∀ D o b1 b2 b3 z G H1 H2 H3 H', H D = none → Pa o b1 b2 b3 G H1 → Same H G → Same H H2 → (∀ b u, H1 b = some u → G b = none → H' b = some u) → Tz z H2 H3 → (∀ b u, H3 b = some u → H2 b = none → H' b = some u) → Same H H' →
      H' D = some (.dK (putK (stK o b1 b2 b3) (.inr part) z)) → Q (.ref D) H') : tDStar t1 tk tv σ H Q := by
  intro D hD
  refine h1 D hD _ fun a o b1 b2 b3 H1 s1 ha pa => ?_
  have sG := same_new (o := .dK []) hD
  have hG : (upd H D (.dK [])) D = some (.dK []) := upd_same
  generalize upd H D (.dK []) = G at s1 pa sG hG
  have hD1 := s1 _ _ hG
  have nDa : D ≠ a := fun e => by rw [e, ha] at hD1; cases hD1
  refine ⟨a, stK o b1 b2 b3, rfl, .inl ha, nDa, hD1, small1000 (show 4 ≤ 1000 by decide), fun S hS => ?_⟩
  rw [merge_st] at hS ⊢
  have nDS : D ≠ S := fun e => by rw [← e, upd_same] at hS; cases hS
  have s2 := same_new (o := .dK []) hS
  have hS1 : H1 S = none := by rw [upd_ne (Ne.symm nDS)] at hS; exact hS
  have new1 : ∀ b u, H1 b = some u → G b = none → (upd (upd H1 D (.dK (stK o b1 b2 b3))) S (.dK [])) b = some u := fun b u e n => by
    have : b ≠ D := fun w => by rw [w, hG] at n; cases n
    exact s2 _ _ (by rw [upd_ne this]; exact e)
  have old1 : Same H (upd (upd H1 D (.dK (stK o b1 b2 b3))) S (.dK [])) := fun b u e => by
    have : b ≠ D := fun w => by rw [w, hD] at e; cases e
    exact s2 _ _ (by rw [upd_ne this]; exact s1 _ _ (sG _ _ e))
  have hD2 : (upd (upd H1 D (.dK (stK o b1 b2 b3))) S (.dK [])) D = some (.dK (stK o b1 b2 b3)) := s2 _ _ upd_same
  have hS2 : (upd (upd H1 D (.dK (stK o b1 b2 b3))) S (.dK [])) S = some (.dK []) := upd_same
  generalize upd (upd H1 D (.dK (stK o b1 b2 b3))) S (.dK []) = H2 at new1 old1 hD2 hS2
  refine hk _ _ (hv o b1 b2 b3 G H1 H2 _ pa sG new1 old1 fun z H3 s3 tz => ⟨.inr part, rfl, s3 _ _ hD2, s3 _ _ hS2, nDS, ?_⟩)
  refine q D o b1 b2 b3 z G H1 H2 H3 _ hD pa sG old1 (fun b u e n => ?_) tz (fun b u e n => ?_) (fun b u e => ?_) upd_same
  · have n1 : b ≠ D := fun w => by rw [w, hG] at n; cases n
    have n2 : b ≠ S := fun w => by rw [w, hS1] at e; cases e
    rw [upd_ne n1, upd_ne n2]; exact s3 _ _ (new1 _ _ e n)
  · have n1 : b ≠ D := fun w => by rw [w, hD2] at n; cases n
    have n2 : b ≠ S := fun w => by rw [w, hS2] at n; cases n
    rw [upd_ne n1, upd_ne n2]; exact e
  · have n1 : b ≠ D := fun w => by rw [w, hD] at e; cases e
    have n2 : b ≠ S := fun w => by rw [w] at e; rw [s1 _ _ (sG _ _ e)] at hS1; cases hS1
    rw [upd_ne n1, upd_ne n2]; exact s3 _ _ (old1 _ _ e)
/-- the simplest first part: a name that holds a state -/
theorem star_var {σ : L2.St} {H : Hp} {i : Nat} {a b1 b2 b3 : Addr} {o : Int} (h0 : σ[i]? = some (some (.ref a))) (ha : H a = some (.dK (stK o b1 b2 b3))) (D : Addr) (hD : H D = none) (R : VK)
    (k : ∀ a' o' c1 c2 c3 H1, Same (upd H D (.dK [])) H1 → H1 a' = some (.dK (stK o' c1 c2 c3)) → (o' = o ∧ c1 = b1 ∧ c2 = b2 ∧ c3 = b3) → R (.ref a') H1) : tVar i σ (upd H D (.dK [])) R :=
  ⟨_, h0, k a o b1 b2 b3 _ (Same.refl _) (same_new hD _ _ ha) ⟨rfl, rfl, rfl, rfl⟩⟩
theorem ok_withEntry (F : Fun K "_with_entry" "_with_entry" sWithEntry f fd) (GC : Def P wd K mg base CX0 "_changed" 1 ["table","name","value"] (spChanged K) fC fdC) : FnOk P wd K mg base CX0 2 f fd ["state","part","name","value"] (spWithEntry K) := by
  refine F.ok scWithEntry (fun vs H Q E h => ?_) (fun cdv A outer s H vs Q E hr h => ?_)
  · obtain ⟨H0, a, st, ed, y, z, rfl, _⟩ := h
    rfl
  · obtain ⟨H0, a, st, ed, y, z, rfl, s0, ⟨b1, b2, b3, ha, t1, t2, t3⟩, sm, he, q⟩ := h
    have hr1 : Room 1 _ := hr.mono (by decide)
    refine ⟨_, (pss_one (ps_ret (pe_dstar (pv 0) (pv 1) (pe_call GC.ok hr1 (by rfl) GC.mg GC.kp GC.bd .nil pass0 (pa_cons (pe_dget (hu_of hr) (pv 0) (pv 1) (fun _ _ => rfl)) (pa_cons (pv 2) (pa_cons (pv 3) pa_nil))))))), ?_⟩
    cases ed with
    | sp n v =>
      obtain ⟨rfl, hz⟩ := he
      refine star_gen (part := "spaces") (Pa := fun o' c1 c2 c3 _ _ => o' = st.o ∧ c1 = b1 ∧ c2 = b2 ∧ c3 = b3) (Tz := fun x H2 G => ∃ n', x = .ref n' ∧ H2 n' = none ∧ TabAt (kdK K) (fun _ => SpcAt K H0) eI G n' (setI st.sp n v)) (star_var rfl (s0 _ _ ha)) (fun G R k => ⟨_, rfl, k⟩) (fun o' c1 c2 c3 G H1 H2 R ⟨e0, e1, e2, e3⟩ sG nw s2 k => ?_) (fun D o' c1 c2 c3 x G H1 H2 H3 H' hD ⟨e0, e1, e2, e3⟩ sG s2 nw ⟨n', ex, hn', tz⟩ keep sH hDD => ?_)
      · have s02 := s0.trans s2
        refine ⟨_, rfl, _, rfl, a, .ref b1, rfl, .inl ⟨_, .inr "spaces", .inl (s02 _ _ ha), rfl, rfl⟩, _, rfl, _, rfl, ?_⟩
        exact .inl (ch_tab (kdK K) eI_inj okI (fun _ z => z) (t1.frz s02) sm.sp rfl hz fun D' H3 s3 hD' t' => k (.ref D') H3 s3 ⟨D', rfl, hD', t'⟩)
      · subst e0 e1 e2 e3 ex
        refine q D H' sH hD fun H'' s'' nw'' => ?_
        have fn : H n' = none := by
          cases e : H n' with
          | none => rfl
          | some u => rw [s2 _ _ e] at hn'; cases hn'
        have tN := tz.thaw (R := SpcAt K) (fun u e => nw'' _ _ (keep _ _ e hn') fn) (fun _ _ z => z.same s'')
        have hD2 := nw'' _ _ hDD hD
        exact ⟨n', _, _, hD2, tN, TabAt.same (fun _ _ z => z.same s'') s'' t2, TabAt.same (fun _ _ z => z.same s'') s'' t3⟩
    | sn n v =>
      obtain ⟨⟨yb, rfl, hyb⟩, hz⟩ := he
      refine star_gen (part := "snaps") (Pa := fun o' c1 c2 c3 _ _ => o' = st.o ∧ c1 = b1 ∧ c2 = b2 ∧ c3 = b3) (Tz := fun x H2 G => ∃ n', x = .ref n' ∧ H2 n' = none ∧ TabAt (kdT K) (fun _ => SnpAt K H0) eP G n' (setI st.sn n v)) (star_var rfl (s0 _ _ ha)) (fun G R k => ⟨_, rfl, k⟩) (fun o' c1 c2 c3 G H1 H2 R ⟨e0, e1, e2, e3⟩ sG nw s2 k => ?_) (fun D o' c1 c2 c3 x G H1 H2 H3 H' hD ⟨e0, e1, e2, e3⟩ sG s2 nw ⟨n', ex, hn', tz⟩ keep sH hDD => ?_)
      · have s02 := s0.trans s2
        refine ⟨_, rfl, _, rfl, a, .ref b2, rfl, .inl ⟨_, .inr "snaps", .inl (s02 _ _ ha), rfl, rfl⟩, _, rfl, _, rfl, ?_⟩
        exact .inr (ch_tab (kdT K) eP_inj okP (fun _ z => z) (t2.frz s02) sm.sn ⟨yb, rfl, s02 _ _ hyb⟩ hz fun D' H3 s3 hD' t' => k (.ref D') H3 s3 ⟨D', rfl, hD', t'⟩)
      · subst e0 e1 e2 e3 ex
        refine q D H' sH hD fun H'' s'' nw'' => ?_
        have fn : H n' = none := by
          cases e : H n' with
          | none => rfl
          | some u => rw [s2 _ _ e] at hn'; cases hn'
        have tN := tz.thaw (R := SnpAt K) (fun u e => nw'' _ _ (keep _ _ e hn') fn) (fun _ _ z => z.same s'')
        have hD2 := nw'' _ _ hDD hD
        exact ⟨_, n', _, hD2, TabAt.same (fun _ _ z => z.same s'') s'' t1, tN, TabAt.same (fun _ _ z => z.same s'') s'' t3⟩
    | mr n v =>
      obtain ⟨rfl, hz⟩ := he
      refine star_gen (part := "marks") (Pa := fun o' c1 c2 c3 _ _ => o' = st.o ∧ c1 = b1 ∧ c2 = b2 ∧ c3 = b3) (Tz := fun x H2 G => ∃ n', x = .ref n' ∧ H2 n' = none ∧ TabAt (kdK K) (fun _ => MrkAt K H0) eI G n' (setI st.mr n (some v))) (star_var rfl (s0 _ _ ha)) (fun G R k => ⟨_, rfl, k⟩) (fun o' c1 c2 c3 G H1 H2 R ⟨e0, e1, e2, e3⟩ sG nw s2 k => ?_) (fun D o' c1 c2 c3 x G H1 H2 H3 H' hD ⟨e0, e1, e2, e3⟩ sG s2 nw ⟨n', ex, hn', tz⟩ keep sH hDD => ?_)
      · have s02 := s0.trans s2
        refine ⟨_, rfl, _, rfl, a, .ref b3, rfl, .inl ⟨_, .inr "marks", .inl (s02 _ _ ha), rfl, rfl⟩, _, rfl, _, rfl, ?_⟩
        exact .inl (ch_tab (kdK K) eI_inj okI (fun _ z => z) (t3.frz s02) sm.mr rfl (show OptAt (fun _ => MrkAt K H0) H2 z (some v) from ⟨MrkAt.ref hz, hz⟩) fun D' H3 s3 hD' t' => k (.ref D') H3 s3 ⟨D', rfl, hD', t'⟩)
      · subst e0 e1 e2 e3 ex
        refine q D H' sH hD fun H'' s'' nw'' => ?_
        have fn : H n' = none := by
          cases e : H n' with
          | none => rfl
          | some u => rw [s2 _ _ e] at hn'; cases hn'
        have tN := tz.thaw (R := MrkAt K) (fun u e => nw'' _ _ (keep _ _ e hn') fn) (fun _ _ z => z.same s'')
        have hD2 := nw'' _ _ hDD hD
        exact ⟨_, _, n', hD2, TabAt.same (fun _ _ z => z.same s'') s'' t1, TabAt.same (fun _ _ z => z.same s'') s'' t2, tN⟩
end
end Sg

set_option Elab.async false
set_option linter.all false
set_option maxRecDepth 100000
set_option maxHeartbeats 4000000
namespace Sg
open PySem PySem.Spec PyProof.Rows L2
/-! ### _without_space -/
def goneS (n : Int) (st : Sta) : Sta := { st with sp := delI st.sp n, sn := st.sn.filter fun p => !decide (p.1.1 = n) }
def notOf (n : Int) : List Key → Bool
  | .inl a :: _ => !decide (a = n)
  | _ => true
theorem pr_filt {κ α β : Type} {R : V → β → Prop} {emb : α → κ} {f : κ → Bool} {g : α → Bool} (h : ∀ a, f (emb a) = g a) : ∀ {kvs : List (κ × V)} {l : List (α × β)}, Paired (fun (p : κ × V) (q : α × β) => p.1 = emb q.1 ∧ R p.2 q.2) kvs l → Paired (fun (p : κ × V) (q : α × β) => p.1 = emb q.1 ∧ R p.2 q.2) (kvs.filter fun p => f p.1) (l.filter fun q => g q.1)
  | _, _, .nil => .nil
  | p :: kvs, q :: l, .cons r t => by
    have ih := pr_filt (f := f) h t
    have e : f p.1 = g q.1 := by rw [r.1, h]
    by_cases c : g q.1 = true
    · have c' : f p.1 = true := by rw [e]; exact c
      simp only [List.filter_cons, c, c', if_true]; exact .cons r ih
    · have c' : ¬ f p.1 = true := by rw [e]; exact c
      simp only [List.filter_cons, c, c', if_false]; exact ih
theorem filt_nodup {α β : Type} {l : List (α × β)} {f : α × β → Bool} (nd : (l.map (·.1)).Nodup) : ((l.filter f).map (·.1)).Nodup := List.Nodup.sublist (List.Sublist.map _ List.filter_sublist) nd
def spWithoutSpace (K : PySem.W.Frag) : Sp := fun vs H Q _ => ∃ (H0 : Hp) (a : Addr) (st : Sta) (n : Int), vs = [.ref a, .int n] ∧ Same H0 H ∧ StAt K H0 a st ∧ SmallS 1000 st ∧
  ∀ D H', Same H H' → H D = none → (∀ H'', Same H0 H'' → New H H' H'' → StAt K H'' D (goneS n st)) → Q (.ref D) H'
theorem ltH {H G : Hp} {b : Addr} (s : Same H G) (h : G b = none) : H b = none := by
  cases e : H b with
  | none => rfl
  | some u => rw [s _ _ e] at h; cases h
section
variable {P : Program} {wd : World} {K : PySem.W.Frag} {mg : Str → Option Value} {base : Heap} {f fW : Addr} {fd fdW : FuncData}
theorem scWithoutSp : FnScope ["state", "namespace", "snaps", "left", "name"] ["state", "namespace"] (defScope sWithoutSpace) := ⟨rfl, rfl, rfl, by decide +kernel, rfl, by decide +kernel, by decide +kernel⟩
theorem ok_withoutSpace (F : Fun K "_without_space" "_without_space" sWithoutSpace f fd) (GW : Def P wd K mg base CX0 "_with_entry" 2 ["state","part","name","value"] (spWithEntry K) fW fdW) : FnOk P wd K mg base CX0 3 f fd ["state","namespace"] (spWithoutSpace K) := by
  refine F.ok scWithoutSp (fun vs H Q E h => ?_) (fun cdv A outer s H vs Q E hr h => ?_)
  · obtain ⟨H0, a, st, n, rfl, _⟩ := h
    rfl
  · obtain ⟨H0, a, st, n, rfl, s0, S0, sm, q⟩ := h
    have hr2 : Room 2 _ := hr.mono (by decide)
    refine ⟨_, (pss_cons (ps_set (i := 2) scWithoutSp.nd rfl (Or.inr rfl) (pe_dget (hu_of hr) (pv 0) pe_str (fun _ _ => rfl)))
      (pss_cons (ps_lock (ps_setDcP (i := 3) (own := [("name", 4)]) (g := gName 4) (tt := tTest (tOp rNe (tOp (rIxT K) (tVar 4) (tC (.int 0))) (tVar 1))) (tk := tVar 4) (tv := tDGet (tVar 2) (tVar 4)) (by rfl) (u0_of hr) scWithoutSp.nd rfl rfl (sw_dc rfl rfl rfl (by decide +kernel)) (pi_keys (pv 2)) (blkOk_by (own := [("name", 4)]) (N := ["state", "namespace", "snaps", "left", "name"]) (sc := defScope sWithoutSpace) (by decide +kernel)) ⟨fun _ _ _ _ _ => pg_name (i := 4) scWithoutSp.nd rfl (Or.inl rfl), fun _ _ _ _ _ => pts_one (by exact (pt_cmpR op_ne (pe_ix ix_tup (pv 4) pe_int (fun _ _ => rfl)) (pv 1) (nomark _))), fun _ _ _ _ _ => by exact (pv 4), fun _ _ _ _ _ => by exact (pe_dget (hu_of hr) (pv 2) (pv 4) (fun _ _ => rfl))⟩))
      (pss_one (ps_ret (pe_dstar (pe_call GW.ok hr2 (by rfl) GW.mg GW.kp GW.bd .nil pass0 (pa_cons (pv 0) (pa_cons pe_str (pa_cons (pv 1) (pa_cons pe_non pa_nil))))) pe_str (pv 3)))))), ?_⟩
    obtain ⟨b1, b2, b3, ha, t1, t2, t3⟩ := id S0
    refine ⟨_, rfl, a, .ref b2, rfl, .inl ⟨_, .inr "snaps", .inl (s0 _ _ ha), rfl, rfl⟩, ?_⟩
    obtain ⟨kvs, h2, pr, nd⟩ := id (t2.frz s0)
    have ndk := pr_nodup eP_inj (R := SnpAt K H0) pr nd
    have kl := Paired.length pr
    refine ⟨b2, .dT kvs, h2, True.intro, fun od => ?_⟩
    refine keepF_dc (kdT K) (notOf n) (show 4 < 5 by decide) (by decide) rfl upd_same ndk (by have := sm.sn; omega) (fun x k H' Q' hk hat sx k' => ?_) fun L H1' s1' hL hL1' => ?_
    · rw [pr_keys (R := SnpAt K H0) pr] at hk
      obtain ⟨p, hp, rfl⟩ := List.mem_map.mp hk
      obtain ⟨b, rfl, hb⟩ := hat
      refine ⟨_, rfl, b, _, _, _, rfl, rfl, SqT.of hb, atI_nat (j := 0) rfl, _, rfl, rfl, _, rfl, ?_⟩
      have e : decide (V.int p.1.1 = V.int n) = decide (p.1.1 = n) := by
        by_cases z : p.1.1 = n
        · rw [decide_eq_true z, decide_eq_true (show V.int _ = V.int n by rw [z])]
        · rw [decide_eq_false z, decide_eq_false (show ¬ V.int _ = V.int n from fun y => z (by injection y))]
      show Q' (!decide (V.int p.1.1 = V.int n)) H'
      rw [e]; exact k'
    · obtain ⟨nL, fL⟩ := lock_free hL
      refine ⟨s1' _ _ upd_same, ?_⟩
      have s1 : Same H (upd H1' b2 (.dT kvs)) := lock_same h2 rfl s1'
      have hL1 : (upd H1' b2 (.dT kvs)) L = some (.dT (kvs.filter fun p => notOf n p.1)) := by rw [upd_ne nL]; exact hL1'
      generalize upd H1' b2 (.dT kvs) = H1 at s1 hL1
      have s01 := s0.trans s1
      refine star_gen (part := "snaps") (Pa := fun o c1 c2 c3 G G1 => ∃ D', G1 D' = some (.dK (stK o c1 c2 c3)) ∧ G D' = none ∧ ∀ H'', Same H0 H'' → New G G1 H'' → StAt K H'' D' (edS (.sp n none) st)) (Tz := fun x _ _ => x = .ref L)
        (fun D hD R k => ?_) (fun G R k => k) (fun o c1 c2 c3 G G1 G2 R _ sG nw s2 k => ⟨_, rfl, k _ _ (Same.refl _) rfl⟩) (fun D o c1 c2 c3 x G G1 G2 G3 H' hD ⟨D', hD', gD', pa⟩ sG s2 nw ex keep sH hDD => ?_)
      · have sD := same_new (o := .dK []) hD
        refine ⟨_, rfl, _, rfl, H0, a, st, .sp n none, .int n, .non, rfl, s01.trans sD, S0, sm, ⟨rfl, rfl⟩, fun D' G1 s2 hD' all => ?_⟩
        obtain ⟨c1, c2, c3, hh, _⟩ := all G1 (s01.trans (sD.trans s2)) (fun _ _ e _ => e)
        exact k D' _ c1 c2 c3 G1 s2 hh ⟨D', hh, hD', all⟩
      · subst ex
        refine q D H' (s1.trans sH) (ltH s1 hD) fun H'' s'' nw'' => ?_
        obtain ⟨e1, e2, e3, hh, u1, u2, u3⟩ := pa H'' s'' fun b u e g => nw'' _ _ (nw _ _ e g) (ltH (s1.trans sG) g)
        have hh' := nw'' _ _ (nw _ _ hD' gD') (ltH (s1.trans sG) gD')
        rw [hh'] at hh
        have eq := Option.some.inj hh
        injection eq with eq
        simp only [stK, List.cons.injEq, Prod.mk.injEq, and_true, true_and, V.int.injEq, V.ref.injEq] at eq
        obtain ⟨eo, f1, f2, f3⟩ := eq
        subst eo f1 f2 f3
        refine ⟨c1, L, c3, nw'' _ _ hDD (ltH s1 hD), u1, ⟨_, nw'' _ _ (sH _ _ hL1) fL, Paired.imp2 (fun p q z => ⟨z.1, SnpAt.same z.2 s''⟩) (pr_filt (R := SnpAt K H0) (f := notOf n) (g := fun k => !decide (k.1 = n)) (fun _ => rfl) pr), filt_nodup nd⟩, u3⟩
end
end Sg

set_option Elab.async false
set_option linter.all false
set_option maxRecDepth 100000
set_option maxHeartbeats 4000000
namespace Sg
open PySem PySem.Spec PyProof.Rows L2
/-! ### what effects do to a state -/
def lookI {α β : Type} [DecidableEq α] (l : List (α × β)) (k : α) : Option β := (l.find? fun p => decide (p.1 = k)).map (·.2)
def insR (rg : List (Int × Int)) (h k : Int) : List (Int × Int) := (outR rg h ++ [(h, k)]).mergeSort fun a b => decide (a.1 ≤ b.1)
inductive Eff
  | host (h s c : Int) (an : PyData) | told (h : Int) (d : PyData) | space (n z : Int)
  | gone (n o : Int) | snap (n m : Int) (b : Option Int) | place (n p : Int) (v : Option Int) | key (n h : Int) (k : Option Int) | hold (n : Int) (hd : Option (Int × Str))
def oD : Option Int → PyData
  | none => .none
  | some i => .int i
def toEf : Eff → Ef
  | .host h s c an => ([.inr "host", .inl h], .tuple [.int s, .int c, an])
  | .told h d => ([.inr "told", .inl h], d)
  | .space n z => ([.inr "space", .inl n], .int z)
  | .gone n o => ([.inr "gone", .inl n], .int o)
  | .snap n m b => ([.inr "snap", .inl n, .inl m], oD b)
  | .place n p v => ([.inr "place", .inl n, .inl p], oD v)
  | .key n h k => ([.inr "key", .inl n, .inl h], oD k)
  | .hold n hd => ([.inr "hold", .inl n], holdD hd)
def effsB (o h : Int) : Bd → List Eff
  | .mark d => [.told h d]
  | .make n z => [.space n z]
  | .remove n => [.gone n o]
  | .write n p v => [.place n p (some v)]
  | .trim n p => [.place n p none]
  | .snap n => [.snap n o (some o)]
  | .drop n s => [.snap n s none]
  | .register n => [.key n h (some o)]
  | .leave n false => [.key n h none]
  | .leave n true => [.key n h none, .hold n none]
  | .reserve n w => [.hold n (some (h, w))]
  | .release n => [.hold n none]
  | .preempt n v none => [.key n v none]
  | .preempt n v (some w) => [.key n v none, .hold n (some (h, w))]
def effsR (r : Rc) : List Eff := .host r.h r.s r.c (answD (kindS r.b) r.o) :: effsB r.o r.h r.b
theorem effsR_ef (r : Rc) : effR r = (effsR r).map toEf := by
  unfold effR effsR effH
  rw [List.map_cons]
  congr 1
  cases r.b with
  | leave n b => cases b <;> rfl
  | preempt n v w => cases w <;> rfl
  | _ => rfl
def spaceOf : Eff → Option Int
  | .gone n _ => some n | .snap n _ _ => some n | .place n _ _ => some n | .key n _ _ => some n | .hold n _ => some n
  | _ => none
/-- the spaces' effects, the space being s -/
def within (s : Spc) : Eff → Sta → Sta
  | .gone n _, st => goneS n st
  | .snap n m b, st => { st with sn := setI st.sn (n, m) (b.map fun _ => s.cs) }
  | .place n p v, st => { st with sp := putI st.sp n { s with cs := setI s.cs p v } }
  | .key n h none, st => { st with sp := putI st.sp n { s with rg := outR s.rg h } }
  | .key n h (some k), st => { st with sp := putI st.sp n { s with rg := insR s.rg h k } }
  | .hold n hd, st => { st with sp := putI st.sp n { s with hd := hd } }
  | _, st => st
def toldOf (st : Sta) (h : Int) : PyData := match lookI st.mr h with
  | none => .none
  | some m => m.td
def afterE : Eff → Sta → Sta
  | .host h s c an, st => { st with mr := putI st.mr h ⟨s, c, an, toldOf st h⟩ }
  | .told h d, st => match lookI st.mr h with
    | none => st
    | some m => { st with mr := putI st.mr h { m with td := d } }
  | .space n z, st => { st with sp := putI st.sp n ⟨z, [], [], none⟩ }
  | e, st => match spaceOf e with
    | none => st
    | some n => match lookI st.sp n with
      | none => st
      | some s => within s e st
def afterR (st : Sta) (r : Rc) : Sta := (effsR r).foldl (fun s e => afterE e s) { st with o := r.o }
/-- what stands in every state: sizes, and each fence has a host once -/
structure StG (n : Nat) (st : Sta) : Prop where
  sm : SmallS n st
  rg : ∀ p ∈ st.sp, (p.2.rg.map (·.1)).Nodup ∧ p.2.rg.length ≤ n
theorem out_nodup {rg : List (Int × Int)} {h k : Int} (nd : (rg.map (·.1)).Nodup) : ((outR rg h ++ [(h, k)]).map (·.1)).Nodup := by
  rw [List.map_append, List.nodup_append]
  refine ⟨filt_nodup nd, by simp, fun a ha b hb e => ?_⟩
  obtain ⟨p, hp, rfl⟩ := List.mem_map.mp ha
  have := (List.mem_filter.mp hp).2
  simp at hb this
  exact this (e.trans hb)
theorem fst_inj {L : List (Int × Int)} (nd : (L.map (·.1)).Nodup) {x y : Int × Int} (hx : x ∈ L) (hy : y ∈ L) (e : x.1 = y.1) : x = y := by
  obtain ⟨i, hi⟩ := List.mem_iff_getElem?.mp hx
  obtain ⟨j, hj⟩ := List.mem_iff_getElem?.mp hy
  have h1 : (L.map (·.1))[i]? = some x.1 := by rw [List.getElem?_map, hi]; rfl
  have h2 : (L.map (·.1))[j]? = some x.1 := by rw [List.getElem?_map, hj, e]; rfl
  have li := (List.getElem?_eq_some_iff.mp h1).1
  have lj := (List.getElem?_eq_some_iff.mp h2).1
  have ee := (List.getElem?_eq_some_iff.mp h1).2.trans (List.getElem?_eq_some_iff.mp h2).2.symm
  have : i = j := by
    rcases Nat.lt_trichotomy i j with c | c | c
    · exact absurd ee ((List.pairwise_iff_getElem.mp nd) i j li lj c)
    · exact c
    · exact absurd ee.symm ((List.pairwise_iff_getElem.mp nd) j i lj li c)
  subst this
  rw [hi] at hj; exact Option.some.inj hj
theorem ins_perm {rg : List (Int × Int)} {h k : Int} : (insR rg h k).Perm (outR rg h ++ [(h, k)]) := List.mergeSort_perm _ _
theorem ins_eq {rg rs : List (Int × Int)} {h k : Int} (nd : (rg.map (·.1)).Nodup) (p : rs.Perm (outR rg h ++ [(h, k)])) (s : (rs.map (·.1)).Pairwise (· ≤ ·)) : rs = insR rg h k := by
  have nL := out_nodup (h := h) (k := k) nd
  refine List.Perm.eq_of_pairwise (le := fun a b : Int × Int => a.1 ≤ b.1) (fun x y hx hy h1 h2 => fst_inj nL (p.mem_iff.mp hx) (ins_perm.mem_iff.mp hy) (by omega)) (List.pairwise_map.mp s) ?_ (p.trans ins_perm.symm)
  have := List.pairwise_mergeSort (le := fun a b : Int × Int => decide (a.1 ≤ b.1)) (by intro a b c h1 h2; simp at *; omega) (by intro a b; simp; omega) (outR rg h ++ [(h, k)])
  exact this.imp fun h => of_decide_eq_true h
theorem ins_nodup {rg : List (Int × Int)} {h k : Int} (nd : (rg.map (·.1)).Nodup) : ((insR rg h k).map (·.1)).Nodup := ((ins_perm.map _).nodup_iff).mpr (out_nodup nd)
theorem out_len {rg : List (Int × Int)} {h : Int} : (outR rg h).length ≤ rg.length := List.length_filter_le _ _
theorem ins_len {rg : List (Int × Int)} {h k : Int} : (insR rg h k).length ≤ rg.length + 1 := by
  rw [ins_perm.length_eq, List.length_append]; have := out_len (rg := rg) (h := h); simp; omega
end Sg

set_option Elab.async false
set_option linter.all false
set_option maxRecDepth 100000
set_option maxHeartbeats 4000000
namespace Sg
open PySem PySem.Spec PyProof.Rows L2
/-! ### _after_effect_within -/
theorem lookI_nil {α β : Type} [DecidableEq α] {k : α} : lookI ([] : List (α × β)) k = none := rfl
theorem pr_look {κ α β : Type} [DecidableEq κ] [DecidableEq α] {R : V → β → Prop} {emb : α → κ} (he : ∀ a b, emb a = emb b → a = b) {k : α} : ∀ {kvs : List (κ × V)} {l : List (α × β)}, Paired (fun (p : κ × V) (q : α × β) => p.1 = emb q.1 ∧ R p.2 q.2) kvs l →
    (lookI l k = none ∧ valV kvs (emb k) = none) ∨ ∃ v z, lookI l k = some v ∧ valV kvs (emb k) = some z ∧ R z v
  | _, _, .nil => .inl ⟨rfl, rfl⟩
  | p :: kvs, q :: l, .cons r t => by
    by_cases c : q.1 = k
    · refine .inr ⟨q.2, p.2, ?_, valV_pos (r.1.trans (by rw [c])), r.2⟩
      unfold lookI
      rw [List.find?_cons_of_pos (by simp [c])]; rfl
    · have e1 : lookI (q :: l) k = lookI l k := by
        unfold lookI
        rw [List.find?_cons_of_neg (by simp [c])]
      have e2 : valV (p :: kvs) (emb k) = valV kvs (emb k) := valV_neg (fun e => c (he _ _ (r.1.symm.trans e)))
      rw [e1, e2]
      exact pr_look he t
theorem look_mem {α β : Type} [DecidableEq α] {l : List (α × β)} {k : α} {v : β} (h : lookI l k = some v) : (k, v) ∈ l := by
  unfold lookI at h
  cases e : l.find? fun p => decide (p.1 = k) with
  | none => rw [e] at h; cases h
  | some p =>
    rw [e] at h
    have h1 := List.mem_of_find?_eq_some e
    have h2 := List.find?_some e
    have : p = (k, v) := Prod.ext (of_decide_eq_true h2) (Option.some.inj h)
    rw [← this]; exact h1
/-- a topic in the heap, as effects have it -/
def TpAt (H : Hp) (t : Addr) (k : List Key) : Prop := H t = some (.tup (k.map kV))
def EfAt (K : PySem.W.Frag) (H : Hp) (t : Addr) (v : V) (e : Eff) : Prop := TpAt H t (toEf e).1 ∧ Dp K H v (toEf e).2
def hdOk (hd : Option (Int × Str)) : Prop := ∀ h w, hd = some (h, w) → PyData.strOk w = true
def efOk : Eff → Prop
  | .hold _ hd => hdOk hd
  | _ => True
def spWithin (K : PySem.W.Frag) : Sp := fun vs H Q _ => ∃ (a t : Addr) (v : V) (st : Sta) (e : Eff) (n : Int) (s : Spc), vs = [.ref a, .ref t, v] ∧ StAt K H a st ∧ StG 900 st ∧ EfAt K H t v e ∧ efOk e ∧ spaceOf e = some n ∧ lookI st.sp n = some s ∧
  ∀ D H', Same H H' → StAt K H' D (within s e st) → Q (.ref D) H'
theorem SmallS.mono {n m : Nat} {st : Sta} (h : SmallS n st) (l : n ≤ m) : SmallS m st := ⟨Nat.le_trans h.sp l, Nat.le_trans h.sn l, Nat.le_trans h.mr l, fun p hp => Nat.le_trans (h.cs p hp) l, fun p hp => Nat.le_trans (h.cn p hp) l⟩
theorem new_self {H H' : Hp} : New H H' H' := fun _ _ e _ => e
theorem hold_of {K : PySem.W.Frag} {H : Hp} {v : V} {hd : Option (Int × Str)} (h : Dp K H v (holdD hd)) (ok : hdOk hd) : HoldV K H v hd := by
  cases hd with
  | none => exact dp_none h
  | some p =>
    obtain ⟨a, w⟩ := p
    unfold holdD at h
    cases h with
    | tup hs hd' =>
      obtain ⟨x1, r1, rfl, e1, b1⟩ := dpAll_cons hd'
      obtain rfl := dp_int e1
      obtain ⟨x2, r2, rfl, e2, b2⟩ := dpAll_cons b1
      obtain rfl := dp_strv e2
      obtain rfl := dpAll_nil b2
      exact ⟨_, rfl, hs, ok a w rfl⟩
theorem od_at {K : PySem.W.Frag} {H : Hp} {v : V} {o : Option Int} (h : Dp K H v (oD o)) : (o = none ∧ v = .non) ∨ ∃ i, o = some i ∧ v = .int i := by
  cases o with
  | none => exact .inl ⟨rfl, dp_none h⟩
  | some i => exact .inr ⟨i, rfl, dp_int h⟩
section
variable {P : Program} {wd : World} {K : PySem.W.Frag} {mg : Str → Option Value} {base : Heap} {f fO fW fC fD fA fH : Addr} {fd fdO fdW fdC fdD fdA fdH : FuncData}
theorem scWithin : FnScope ["state", "topic", "value", "size", "cells", "fence", "namespace", "number", "place", "space", "host", "after"] ["state", "topic", "value"] (defScope sAfterWithin) := ⟨rfl, rfl, rfl, by decide +kernel, rfl, by decide +kernel, by decide +kernel⟩
theorem ok_within (F : Fun K "_after_effect_within" "_after_effect_within" sAfterWithin f fd) (GO : Def P wd K mg base CX0 "_without_space" 3 ["state","namespace"] (spWithoutSpace K) fO fdO) (GW : Def P wd K mg base CX0 "_with_entry" 2 ["state","part","name","value"] (spWithEntry K) fW fdW)
    (GC : Def P wd K mg base CX0 "_changed" 1 ["table","name","value"] (spChanged K) fC fdC) (GD : Def P wd K mg base CX0 "without_key" 1 ["fence","host"] (spWithoutKey K) fD fdD) (GA : Def P wd K mg base CX0 "with_key" 2 ["fence","host","key"] (spWithKey K) fA fdA) (GH : Def P wd K mg base CX0 "with_holder" 1 ["fence","reservation"] (spWithHolder K) fH fdH) :
    FnOk P wd K mg base CX0 4 f fd ["state","topic","value"] (spWithin K) := by
  refine F.ok scWithin (fun vs H Q E h => ?_) (fun cdv A outer s H vs Q E hr h => ?_)
  · obtain ⟨a, t, v, st, e, n, s, rfl, _⟩ := h
    rfl
  · obtain ⟨a, t, v, st, e, n, sp, rfl, SA, G, ⟨ht, hv⟩, eok, hn, hl, q⟩ := h
    have hr3 : Room 3 _ := hr.mono (by decide)
    have hr2 : Room 2 _ := hr.mono (by decide)
    have hr1 : Room 1 _ := hr.mono (by decide)
    refine ⟨_, (pss_cons (ps_asg (pe_dget (hu_of hr) (pe_dget (hu_of hr) (pv 0) pe_str (fun _ _ => rfl)) (pe_ix ix_tup (pv 1) pe_int (fun _ _ => rfl)) (fun _ _ => rfl)) (pg_tup (by rfl) (pgs_cons (pg_name (i := 3) scWithin.nd rfl (Or.inl rfl)) (pgs_cons (pg_name (i := 4) scWithin.nd rfl (Or.inl rfl)) (pgs_cons (pg_name (i := 5) scWithin.nd rfl (Or.inl rfl)) L2.pgs_nil)))))
      (pss_one (ps_match (pv 1) (pcs_cons scWithin.nd (mp_seq (n := 2) rfl (mps_cons mp_str (mps_cons (mp_cap (i := 6) rfl (Or.inl rfl)) mps_nil)))
        (pss_one (ps_ret (pe_call GO.ok hr3 (by rfl) GO.mg GO.kp GO.bd .nil pass0 (pa_cons (pv 0) (pa_cons (pv 6) pa_nil)))))
        (pcs_cons scWithin.nd (mp_seq (n := 3) rfl (mps_cons mp_str (mps_cons (mp_cap (i := 6) rfl (Or.inl rfl)) (mps_cons (mp_cap (i := 7) rfl (Or.inl rfl)) mps_nil))))
        (pss_one (ps_ret (pe_call GW.ok hr2 (by rfl) GW.mg GW.kp GW.bd .nil pass0 (pa_cons (pv 0) (pa_cons pe_str (pa_cons (pe_tup (pa_cons (pv 6) (pa_cons (pv 7) pa_nil))) (pa_cons (pe_ifExp (pt_cmpR op_isN (pv 2) pe_non (nomark _)) pe_non (pv 4)) pa_nil)))))))
        (pcs_cons scWithin.nd (mp_seq (n := 3) rfl (mps_cons mp_str (mps_cons (mp_cap (i := 6) rfl (Or.inl rfl)) (mps_cons (mp_cap (i := 8) rfl (Or.inl rfl)) mps_nil))))
        (pss_cons (ps_set (i := 9) scWithin.nd rfl (Or.inl rfl) (pe_tup (pa_cons (pv 3) (pa_cons (pe_call GC.ok hr1 (by rfl) GC.mg GC.kp GC.bd .nil pass0 (pa_cons (pv 4) (pa_cons (pv 8) (pa_cons (pv 2) pa_nil)))) (pa_cons (pv 5) pa_nil)))))
      (pss_one (ps_ret (pe_call GW.ok hr2 (by rfl) GW.mg GW.kp GW.bd .nil pass0 (pa_cons (pv 0) (pa_cons pe_str (pa_cons (pv 6) (pa_cons (pv 9) pa_nil))))))))
        (pcs_cons scWithin.nd (mp_seq (n := 3) rfl (mps_cons mp_str (mps_cons (mp_cap (i := 6) rfl (Or.inl rfl)) (mps_cons (mp_cap (i := 10) rfl (Or.inl rfl)) mps_nil))))
        (pss_cons (ps_set (i := 11) scWithin.nd rfl (Or.inl rfl) (pe_ifExp (pt_cmpR op_isN (pv 2) pe_non (nomark _)) (pe_call GD.ok hr1 (by rfl) GD.mg GD.kp GD.bd .nil pass0 (pa_cons (pv 5) (pa_cons (pv 10) pa_nil))) (pe_call GA.ok hr2 (by rfl) GA.mg GA.kp GA.bd .nil pass0 (pa_cons (pv 5) (pa_cons (pv 10) (pa_cons (pv 2) pa_nil))))))
      (pss_one (ps_ret (pe_call GW.ok hr2 (by rfl) GW.mg GW.kp GW.bd .nil pass0 (pa_cons (pv 0) (pa_cons pe_str (pa_cons (pv 6) (pa_cons (pe_tup (pa_cons (pv 3) (pa_cons (pv 4) (pa_cons (pv 11) pa_nil)))) pa_nil))))))))
        (pcs_cons scWithin.nd (mp_seq (n := 2) rfl (mps_cons mp_str (mps_cons (mp_cap (i := 6) rfl (Or.inl rfl)) mps_nil)))
        (pss_one (ps_ret (pe_call GW.ok hr2 (by rfl) GW.mg GW.kp GW.bd .nil pass0 (pa_cons (pv 0) (pa_cons pe_str (pa_cons (pv 6) (pa_cons (pe_tup (pa_cons (pv 3) (pa_cons (pv 4) (pa_cons (pe_call GH.ok hr1 (by rfl) GH.mg GH.kp GH.bd .nil pass0 (pa_cons (pv 5) (pa_cons (pv 2) pa_nil))) pa_nil)))) pa_nil)))))))
        pcs_nil)))))))), ?_⟩
    obtain ⟨b1, b2, b3, ha, t1, t2, t3⟩ := id SA
    obtain ⟨kvs, hb1, pr, nd⟩ := id t1
    have mem := look_mem hl
    obtain ⟨r1, r2⟩ := G.rg _ mem
    have sm : SmallS 1000 st := G.sm.mono (by decide)
    have csl : sp.cs.length ≤ 900 := G.sm.cs _ mem
    have r3 : sp.rg.length ≤ 900 := r2
    rcases pr_look (R := SpcAt K H) eI_inj (k := n) pr with ⟨e0, _⟩ | ⟨sp', z, e0, hz, az⟩
    · rw [hl] at e0; cases e0
    · rw [hl] at e0; cases e0
      obtain ⟨p, c, fv, rfl, hp, hc, hf⟩ := az
      have idx1 : ∀ w (r : List V), (H t = some (.tup (.str w :: .int n :: r)) → SqT K H t (.str w :: .int n :: r)) := fun _ _ h => SqT.of h
      cases e with
      | host _ _ _ _ => cases hn
      | told _ _ => cases hn
      | space _ _ => cases hn
      | gone n' o =>
        cases hn
        have hs : SqT K H t [.str "gone", .int n] := SqT.of ht
        refine ⟨_, rfl, a, .ref b1, rfl, .inl ⟨_, .inr "spaces", .inl ha, rfl, rfl⟩, _, rfl, t, _, _, _, rfl, rfl, hs, atI_nat (j := 1) rfl, b1, .ref p, rfl, .inl ⟨_, .inl n, .inl hb1, rfl, hz.symm⟩, p, _, rfl, hp, rfl, _, _, rfl, _, _, rfl, _, _, rfl, rfl, ?_⟩
        refine ⟨_, rfl, t, _, rfl, hs, fun _ => ⟨_, _, rfl, mS_hit rfl ?_⟩, fun z => absurd rfl z⟩
        refine ⟨_, _, rfl, ?_⟩
        refine ⟨_, rfl, _, rfl, H, a, st, n, rfl, Same.refl _, SA, sm, fun D H' s1 hD all => q D H' s1 (all H' s1 new_self)⟩
      | snap n' m b =>
        cases hn
        have hs : SqT K H t [.str "snap", .int n, .int m] := SqT.of ht
        refine ⟨_, rfl, a, .ref b1, rfl, .inl ⟨_, .inr "spaces", .inl ha, rfl, rfl⟩, _, rfl, t, _, _, _, rfl, rfl, hs, atI_nat (j := 1) rfl, b1, .ref p, rfl, .inl ⟨_, .inl n, .inl hb1, rfl, hz.symm⟩, p, _, rfl, hp, rfl, _, _, rfl, _, _, rfl, _, _, rfl, rfl, ?_⟩
        refine ⟨_, rfl, ?_⟩
        refine skip hs (by decide) ?_
        refine ⟨t, _, rfl, hs, fun _ => ⟨_, _, rfl, mS_hit rfl ?_⟩, fun z => absurd rfl z⟩
        refine ⟨_, _, rfl, _, _, rfl, ?_⟩
        refine ⟨_, rfl, _, rfl, _, rfl, by show 2 ≤ sizeLine; decide, fun k hk => ?_⟩
        have s1 := same_new (o := .tup [V.int n, V.int m]) hk
        refine ⟨_, rfl, rfl, _, rfl, ?_⟩
        have fin : ∀ z, OptAt (SnpAt K) (upd H k (.tup [V.int n, V.int m])) z (b.map fun _ => sp.cs) → spWithEntry K [.ref a, .str "snaps", .ref k, z] (upd H k (.tup [V.int n, V.int m])) Q E := fun z hz => by
          refine ⟨_, a, st, .sn (n, m) (b.map fun _ => sp.cs), .ref k, z, rfl, Same.refl _, SA.same s1, sm, ⟨⟨k, rfl, upd_same⟩, hz⟩, fun D H' s2 hD all => q D H' (s1.trans s2) (all H' s2 new_self)⟩
        rcases od_at hv with ⟨rfl, rfl⟩ | ⟨i, rfl, rfl⟩
        · refine chooseT rfl ?_
          exact fin _ rfl
        · refine chooseF rfl ?_
          exact ⟨_, rfl, fin _ (show OptAt (SnpAt K) _ (V.ref c) (some sp.cs) from ⟨(fun z => nomatch z), c, rfl, hc.same s1⟩)⟩
      | place n' pl x =>
        cases hn
        have hs : SqT K H t [.str "place", .int n, .int pl] := SqT.of ht
        refine ⟨_, rfl, a, .ref b1, rfl, .inl ⟨_, .inr "spaces", .inl ha, rfl, rfl⟩, _, rfl, t, _, _, _, rfl, rfl, hs, atI_nat (j := 1) rfl, b1, .ref p, rfl, .inl ⟨_, .inl n, .inl hb1, rfl, hz.symm⟩, p, _, rfl, hp, rfl, _, _, rfl, _, _, rfl, _, _, rfl, rfl, ?_⟩
        refine ⟨_, rfl, ?_⟩
        refine skip hs (by decide) ?_
        refine skip hs (by decide) ?_
        refine ⟨t, _, rfl, hs, fun _ => ⟨_, _, rfl, mS_hit rfl ?_⟩, fun z => absurd rfl z⟩
        refine ⟨_, _, rfl, _, _, rfl, ?_⟩
        have hx : OptAt (fun (_ : Hp) (x : V) (v : Int) => x = .int v) H v x := by
          rcases od_at hv with ⟨rfl, rfl⟩ | ⟨i, rfl, rfl⟩
          · exact rfl
          · exact ⟨fun z => (nomatch z), rfl⟩
        refine ⟨_, rfl, _, rfl, _, rfl, _, rfl, .inl (ch_tab (kdK K) eI_inj okI (fun _ z => z) hc (by omega) (k := pl) rfl hx fun c2 H1 s1 _ hc2 => ?_)⟩
        refine ⟨_, rfl, by show 3 ≤ sizeLine; decide, fun q2 hq2 => ?_⟩
        have s2 := s1.trans (same_new (o := .tup [V.int sp.z, V.ref c2, fv]) hq2)
        have hc3 : CellAt K (upd H1 q2 (.tup [V.int sp.z, V.ref c2, fv])) c2 (setI sp.cs pl x) := TabAt.same (fun _ _ z => z) (same_new hq2) hc2
        refine ⟨_, rfl, _, rfl, _, rfl, _, a, st, .sp n (some { sp with cs := setI sp.cs pl x }), .int n, .ref q2, rfl, Same.refl _, SA.same s2, sm, ⟨rfl, fun z => (nomatch z), q2, c2, fv, rfl, SqT.of upd_same, hc3, hf.tk (TK.of s2)⟩, fun D H' s3 hD all => q D H' (s2.trans s3) (all H' s3 new_self)⟩
      | key n' h k =>
        cases hn
        have hs : SqT K H t [.str "key", .int n, .int h] := SqT.of ht
        refine ⟨_, rfl, a, .ref b1, rfl, .inl ⟨_, .inr "spaces", .inl ha, rfl, rfl⟩, _, rfl, t, _, _, _, rfl, rfl, hs, atI_nat (j := 1) rfl, b1, .ref p, rfl, .inl ⟨_, .inl n, .inl hb1, rfl, hz.symm⟩, p, _, rfl, hp, rfl, _, _, rfl, _, _, rfl, _, _, rfl, rfl, ?_⟩
        refine ⟨_, rfl, ?_⟩
        refine skip hs (by decide) ?_
        refine skip hs (by decide) ?_
        refine skip hs (by decide) ?_
        refine ⟨t, _, rfl, hs, fun _ => ⟨_, _, rfl, mS_hit rfl ?_⟩, fun z => absurd rfl z⟩
        refine ⟨_, _, rfl, _, _, rfl, ?_⟩
        refine ⟨_, rfl, rfl, _, rfl, ?_⟩
        rcases od_at hv with ⟨rfl, rfl⟩ | ⟨i, rfl, rfl⟩
        · refine chooseT rfl ?_
          refine ⟨_, rfl, _, rfl, fv, h, sp.rg, sp.hd, rfl, hf, by omega, fun f2 H1 s1 hf2 => ?_⟩
          refine ⟨_, rfl, _, rfl, _, rfl, _, rfl, _, rfl, by show 3 ≤ sizeLine; decide, fun q2 hq2 => ?_⟩
          have s2 := s1.trans (same_new (o := .tup [V.int sp.z, V.ref c, V.ref f2]) hq2)
          have s3 := same_new (o := .tup [V.int sp.z, V.ref c, V.ref f2]) hq2
          exact ⟨_, a, st, .sp n (some { sp with rg := outR sp.rg h }), .int n, .ref q2, rfl, Same.refl _, SA.same s2, sm, ⟨rfl, fun z => (nomatch z), q2, c, .ref f2, rfl, SqT.of upd_same, hc.same s2, hf2.tk (TK.of s3)⟩, fun D H' s4 hD all => q D H' (s2.trans s4) (all H' s4 new_self)⟩
        · refine chooseF rfl ?_
          refine ⟨_, rfl, _, rfl, _, rfl, fv, h, i, sp.rg, sp.hd, rfl, hf, by omega, fun f2 rs' H1 s1 pm so hf2 => ?_⟩
          rw [ins_eq r1 pm so] at hf2
          refine ⟨_, rfl, _, rfl, _, rfl, _, rfl, _, rfl, by show 3 ≤ sizeLine; decide, fun q2 hq2 => ?_⟩
          have s2 := s1.trans (same_new (o := .tup [V.int sp.z, V.ref c, V.ref f2]) hq2)
          have s3 := same_new (o := .tup [V.int sp.z, V.ref c, V.ref f2]) hq2
          exact ⟨_, a, st, .sp n (some { sp with rg := insR sp.rg h i }), .int n, .ref q2, rfl, Same.refl _, SA.same s2, sm, ⟨rfl, fun z => (nomatch z), q2, c, .ref f2, rfl, SqT.of upd_same, hc.same s2, hf2.tk (TK.of s3)⟩, fun D H' s4 hD all => q D H' (s2.trans s4) (all H' s4 new_self)⟩
      | hold n' hd =>
        cases hn
        have hs : SqT K H t [.str "hold", .int n] := SqT.of ht
        refine ⟨_, rfl, a, .ref b1, rfl, .inl ⟨_, .inr "spaces", .inl ha, rfl, rfl⟩, _, rfl, t, _, _, _, rfl, rfl, hs, atI_nat (j := 1) rfl, b1, .ref p, rfl, .inl ⟨_, .inl n, .inl hb1, rfl, hz.symm⟩, p, _, rfl, hp, rfl, _, _, rfl, _, _, rfl, _, _, rfl, rfl, ?_⟩
        refine ⟨_, rfl, ?_⟩
        refine skip hs (by decide) ?_
        refine ⟨t, _, rfl, hs, fun z => (by simp at z), fun _ => ?_⟩
        refine ⟨t, _, rfl, hs, fun z => (by simp at z), fun _ => ?_⟩
        refine ⟨t, _, rfl, hs, fun z => (by simp at z), fun _ => ?_⟩
        refine ⟨t, _, rfl, hs, fun _ => ⟨_, _, rfl, mS_hit rfl ?_⟩, fun z => absurd rfl z⟩
        refine ⟨_, _, rfl, ?_⟩
        refine ⟨_, rfl, _, rfl, _, rfl, _, rfl, _, rfl, _, rfl, fv, v, sp.rg, sp.hd, hd, rfl, hf, hold_of hv eok, fun f2 H1 s1 hf2 => ?_⟩
        refine ⟨by show 3 ≤ sizeLine; decide, fun q2 hq2 => ?_⟩
        have s2 := s1.trans (same_new (o := .tup [V.int sp.z, V.ref c, V.ref f2]) hq2)
        have s3 := same_new (o := .tup [V.int sp.z, V.ref c, V.ref f2]) hq2
        exact ⟨_, a, st, .sp n (some { sp with hd := hd }), .int n, .ref q2, rfl, Same.refl _, SA.same s2, sm, ⟨rfl, fun z => (nomatch z), q2, c, .ref f2, rfl, SqT.of upd_same, hc.same s2, hf2.tk (TK.of s3)⟩, fun D H' s4 hD all => q D H' (s2.trans s4) (all H' s4 new_self)⟩
end
end Sg

set_option Elab.async false
set_option linter.all false
set_option maxRecDepth 100000
set_option maxHeartbeats 4000000
namespace Sg
open PySem PySem.Spec PyProof.Rows L2
/-! ### _after_effect -/
def spAfterEff (K : PySem.W.Frag) : Sp := fun vs H Q _ => ∃ (a t : Addr) (v : V) (st : Sta) (e : Eff), vs = [.ref a, .ref t, v] ∧ StAt K H a st ∧ StG 900 st ∧ EfAt K H t v e ∧ efOk e ∧ (∀ h d, e = .told h d → ∃ m, lookI st.mr h = some m) ∧
  ∀ D H', Same H H' → StAt K H' D (afterE e st) → Q (.ref D) H'
theorem after_told {st : Sta} {k : Int} {m : Mrk} {d : PyData} (h : lookI st.mr k = some m) : afterE (.told k d) st = edS (.mr k { m with td := d }) st := by
  simp only [afterE, h]; rfl
theorem after_in {st : Sta} {e : Eff} {n : Int} (hs : spaceOf e = some n) : afterE e st = match lookI st.sp n with | none => st | some s => within s e st := by
  cases e <;> first
    | (cases hs; rfl)
    | cases hs
section
variable {P : Program} {wd : World} {K : PySem.W.Frag} {mg : Str → Option Value} {base : Heap} {f fW fI aNF : Addr} {fd fdW fdI : FuncData}
theorem scAfter : FnScope ["state", "topic", "value", "host", "_", "told", "session", "counter", "answer", "namespace"] ["state", "topic", "value"] (defScope sAfterEff) := ⟨rfl, rfl, rfl, by decide +kernel, rfl, by decide +kernel, by decide +kernel⟩
theorem ok_afterEff (F : Fun K "_after_effect" "_after_effect" sAfterEff f fd) (hNF : mg "NO_FENCE" = some (.ref aNF)) (tNF : ∀ H, FenceAt K H (.ref aNF) [] none) (GW : Def P wd K mg base CX0 "_with_entry" 2 ["state","part","name","value"] (spWithEntry K) fW fdW)
    (GI : Def P wd K mg base CX0 "_after_effect_within" 4 ["state","topic","value"] (spWithin K) fI fdI) : FnOk P wd K mg base CX0 5 f fd ["state","topic","value"] (spAfterEff K) := by
  refine F.ok scAfter (fun vs H Q E h => ?_) (fun cdv A outer s H vs Q E hr h => ?_)
  · obtain ⟨a, t, v, st, e, rfl, _⟩ := h
    rfl
  · obtain ⟨a, t, v, st, e, rfl, SA, G, ⟨ht, hv⟩, eok, told, q⟩ := h
    have hr4 : Room 4 _ := hr.mono (by decide)
    have hr2 : Room 2 _ := hr.mono (by decide)
    refine ⟨_, (pss_cons (ps_match (pv 1) (pcs_cons scAfter.nd (mp_seq (n := 2) rfl (mps_cons mp_str (mps_cons (mp_cap (i := 3) rfl (Or.inl rfl)) mps_nil)))
        (pss_cons (ps_asg (pe_dget2 (hu_of hr) (pe_dget (hu_of hr) (pv 0) pe_str (fun _ _ => rfl)) (pv 3) (pe_tup (pa_cons pe_int (pa_cons pe_int (pa_cons pe_non (pa_cons pe_non pa_nil))))) ⟨rfl, rfl, rfl, rfl⟩) (pg_tup (by rfl) (pgs_cons (pg_name (i := 4) scAfter.nd rfl (Or.inl rfl)) (pgs_cons (pg_name (i := 4) scAfter.nd rfl (Or.inl rfl)) (pgs_cons (pg_name (i := 4) scAfter.nd rfl (Or.inl rfl)) (pgs_cons (pg_name (i := 5) scAfter.nd rfl (Or.inl rfl)) L2.pgs_nil))))))
      (pss_one (ps_ret (pe_call GW.ok hr2 (by rfl) GW.mg GW.kp GW.bd .nil pass0 (pa_cons (pv 0) (pa_cons pe_str (pa_cons (pv 3) (pa_cons (pe_tup (StX.pa_star (pv 2) (pa_cons (pv 5) pa_nil))) pa_nil))))))))
        (pcs_cons scAfter.nd (mp_seq (n := 2) rfl (mps_cons mp_str (mps_cons (mp_cap (i := 3) rfl (Or.inl rfl)) mps_nil)))
        (pss_cons (ps_asg (pe_dget (hu_of hr) (pe_dget (hu_of hr) (pv 0) pe_str (fun _ _ => rfl)) (pv 3) (fun _ _ => rfl)) (pg_tup (by rfl) (pgs_cons (pg_name (i := 6) scAfter.nd rfl (Or.inl rfl)) (pgs_cons (pg_name (i := 7) scAfter.nd rfl (Or.inl rfl)) (pgs_cons (pg_name (i := 8) scAfter.nd rfl (Or.inl rfl)) (pgs_cons (pg_name (i := 4) scAfter.nd rfl (Or.inl rfl)) L2.pgs_nil))))))
      (pss_one (ps_ret (pe_call GW.ok hr2 (by rfl) GW.mg GW.kp GW.bd .nil pass0 (pa_cons (pv 0) (pa_cons pe_str (pa_cons (pv 3) (pa_cons (pe_tup (pa_cons (pv 6) (pa_cons (pv 7) (pa_cons (pv 8) (pa_cons (pv 2) pa_nil))))) pa_nil))))))))
        (pcs_cons scAfter.nd (mp_seq (n := 2) rfl (mps_cons mp_str (mps_cons (mp_cap (i := 9) rfl (Or.inl rfl)) mps_nil)))
        (pss_one (ps_ret (pe_call GW.ok hr2 (by rfl) GW.mg GW.kp GW.bd .nil pass0 (pa_cons (pv 0) (pa_cons pe_str (pa_cons (pv 9) (pa_cons (pe_tup (pa_cons (pv 2) (pa_cons pe_dnewK (pa_cons (pe_glob (v := .ref aNF) (by rfl) hNF rfl) pa_nil)))) pa_nil)))))))
        pcs_nil))))
      (pss_cons (ps_if (pt_cmp (pc_dnotin (hu_of hr) (pe_ix ix_tup (pv 1) pe_int (fun _ _ => rfl)) (pe_dget (hu_of hr) (pv 0) pe_str (fun _ _ => rfl))))
      (pss_one (ps_ret (pv 0))) pss_nil)
      (pss_one (ps_ret (pe_call GI.ok hr4 (by rfl) GI.mg GI.kp GI.bd .nil pass0 (pa_cons (pv 0) (pa_cons (pv 1) (pa_cons (pv 2) pa_nil)))))))), ?_⟩
    obtain ⟨b1, b2, b3, ha, t1, t2, t3⟩ := id SA
    have sm : SmallS 1000 st := G.sm.mono (by decide)
    refine ⟨_, rfl, ?_⟩
    cases e with
    | host h s' c an =>
      have hs : SqT K H t [.str "host", .int h] := SqT.of ht
      refine ⟨t, _, rfl, hs, fun _ => ⟨_, _, rfl, mS_hit rfl ?_⟩, fun z => absurd rfl z⟩
      refine ⟨_, _, rfl, ?_⟩
      obtain ⟨kvs, hb3, pr, nd⟩ := id t3
      refine ⟨_, rfl, a, .ref b3, rfl, .inl ⟨_, .inr "marks", .inl ha, rfl, rfl⟩, b3, rfl, .inl ⟨kvs, .inl hb3⟩, _, rfl, by show 4 ≤ sizeLine; decide, fun d hd => ?_⟩
      have s1 := same_new (o := .tup [V.int 0, V.int 0, V.non, V.non]) hd
      have hd1 : (upd H d (.tup [V.int 0, V.int 0, V.non, V.non])) d = some (.tup [V.int 0, V.int 0, V.non, V.non]) := upd_same
      generalize upd H d (.tup [V.int 0, V.int 0, V.non, V.non]) = H1 at s1 hd1
      have found : ∃ o p x1 x2 x3 x4, DGet H1 b3 (.int h) o ∧ o.getD (.ref d) = .ref p ∧ SqT K H1 p [x1, x2, x3, x4] ∧ Dp K H1 x4 (toldOf st h) := by
        rcases pr_look (R := MrkAt K H) eI_inj (k := h) pr with ⟨e0, hz⟩ | ⟨m, z, e0, hz, az⟩
        · refine ⟨none, d, _, _, _, _, .inl ⟨_, .inl h, .inl (s1 _ _ hb3), rfl, hz.symm⟩, rfl, SqT.of hd1, ?_⟩
          unfold toldOf; rw [e0]; exact .non
        · unfold MrkAt markD at az
          cases az with
          | tup hp hd =>
            obtain ⟨x1, r1, rfl, e1, c1⟩ := dpAll_cons hd
            obtain ⟨x2, r2, rfl, e2, c2⟩ := dpAll_cons c1
            obtain ⟨x3, r3, rfl, e3, c3⟩ := dpAll_cons c2
            obtain ⟨x4, r4, rfl, e4, c4⟩ := dpAll_cons c3
            obtain rfl := dpAll_nil c4
            refine ⟨some _, _, _, _, _, _, .inl ⟨_, .inl h, .inl (s1 _ _ hb3), rfl, hz.symm⟩, rfl, SqT_same s1 hp, ?_⟩
            unfold toldOf; rw [e0]; exact dp_same s1 _ _ e4
      obtain ⟨o, p, x1, x2, x3, x4, hg, ho, hp, h4⟩ := found
      refine ⟨o, hg, ?_⟩
      rw [ho]
      refine ⟨p, _, rfl, hp, rfl, _, _, rfl, _, _, rfl, _, _, rfl, _, _, rfl, rfl, ?_⟩
      cases hv with
      | tup hq hqd =>
        obtain ⟨y1, r1, rfl, e1, c1⟩ := dpAll_cons hqd
        obtain rfl := dp_int e1
        obtain ⟨y2, r2, rfl, e2, c2⟩ := dpAll_cons c1
        obtain rfl := dp_int e2
        obtain ⟨y3, r3, rfl, e3, c3⟩ := dpAll_cons c2
        obtain rfl := dpAll_nil c3
        refine ⟨_, rfl, _, rfl, _, rfl, _, _, rfl, .inl (SqT_same s1 hq), _, rfl, by show 4 ≤ sizeLine; decide, fun q2 hq2 => ?_⟩
        have s2 := same_new (o := .tup [V.int s', V.int c, y3, x4]) hq2
        have s12 := s1.trans s2
        have nm : MrkAt K (upd H1 q2 (.tup [V.int s', V.int c, y3, x4])) (.ref q2) ⟨s', c, an, toldOf st h⟩ := .tup (SqT.of upd_same) (.cons (.int _) (.cons (.int _) (.cons (dp_same s12 _ _ e3) (.cons (dp_same s2 _ _ h4) .nil))))
        exact ⟨_, a, st, .mr h ⟨s', c, an, toldOf st h⟩, .int h, .ref q2, rfl, Same.refl _, SA.same s12, sm, ⟨rfl, nm⟩, fun D H' s3 hD all => q D H' (s12.trans s3) (all H' s3 new_self)⟩
    | told h d =>
      have hs : SqT K H t [.str "told", .int h] := SqT.of ht
      refine skip hs (by decide) ?_
      refine ⟨t, _, rfl, hs, fun _ => ⟨_, _, rfl, mS_hit rfl ?_⟩, fun z => absurd rfl z⟩
      refine ⟨_, _, rfl, ?_⟩
      obtain ⟨m, hm⟩ := told h d rfl
      obtain ⟨kvs, hb3, pr, nd⟩ := id t3
      rcases pr_look (R := MrkAt K H) eI_inj (k := h) pr with ⟨e0, _⟩ | ⟨m', z, e0, hz, az⟩
      · rw [hm] at e0; cases e0
      · rw [hm] at e0; cases e0
        unfold MrkAt markD at az
        cases az with
        | tup hp hd =>
          obtain ⟨x1, r1, rfl, e1, c1⟩ := dpAll_cons hd
          obtain rfl := dp_int e1
          obtain ⟨x2, r2, rfl, e2, c2⟩ := dpAll_cons c1
          obtain rfl := dp_int e2
          obtain ⟨x3, r3, rfl, e3, c3⟩ := dpAll_cons c2
          obtain ⟨x4, r4, rfl, e4, c4⟩ := dpAll_cons c3
          obtain rfl := dpAll_nil c4
          refine ⟨_, rfl, a, .ref b3, rfl, .inl ⟨_, .inr "marks", .inl ha, rfl, rfl⟩, _, rfl, b3, _, rfl, .inl ⟨_, .inl h, .inl hb3, rfl, hz.symm⟩, _, _, rfl, hp, rfl, _, _, rfl, _, _, rfl, _, _, rfl, _, _, rfl, rfl, ?_⟩
          refine ⟨_, rfl, _, rfl, _, rfl, _, rfl, _, rfl, _, rfl, by show 4 ≤ sizeLine; decide, fun q2 hq2 => ?_⟩
          have s2 := same_new (o := .tup [V.int m.s, V.int m.c, x3, v]) hq2
          have nm : MrkAt K (upd H q2 (.tup [V.int m.s, V.int m.c, x3, v])) (.ref q2) { m with td := d } := .tup (SqT.of upd_same) (.cons (.int _) (.cons (.int _) (.cons (dp_same s2 _ _ e3) (.cons (dp_same s2 _ _ hv) .nil))))
          refine ⟨_, a, st, .mr h { m with td := d }, .int h, .ref q2, rfl, Same.refl _, SA.same s2, sm, ⟨rfl, nm⟩, fun D H' s3 hD all => q D H' (s2.trans s3) ?_⟩
          rw [after_told hm]; exact all H' s3 new_self
    | space n z =>
      have hs : SqT K H t [.str "space", .int n] := SqT.of ht
      refine skip hs (by decide) ?_
      refine skip hs (by decide) ?_
      refine ⟨t, _, rfl, hs, fun _ => ⟨_, _, rfl, mS_hit rfl ?_⟩, fun z => absurd rfl z⟩
      refine ⟨_, _, rfl, ?_⟩
      obtain rfl := dp_int hv
      refine ⟨_, rfl, _, rfl, _, rfl, fun D0 hD0 => ?_⟩
      have s1 := same_new (o := .dK []) hD0
      have hD1 : (upd H D0 (.dK [])) D0 = some (.dK []) := upd_same
      generalize upd H D0 (.dK []) = H1 at s1 hD1
      refine ⟨by show 3 ≤ sizeLine; decide, fun q2 hq2 => ?_⟩
      have s2 := same_new (o := .tup [V.int z, V.ref D0, V.ref aNF]) hq2
      have s12 := s1.trans s2
      exact ⟨_, a, st, .sp n (some ⟨z, [], [], none⟩), .int n, .ref q2, rfl, Same.refl _, SA.same s12, sm, ⟨rfl, fun z => (nomatch z), q2, D0, .ref aNF, rfl, SqT.of upd_same, ⟨[], s2 _ _ hD1, .nil, List.nodup_nil⟩, tNF _⟩, fun D H' s3 hD all => q D H' (s12.trans s3) (all H' s3 new_self)⟩
    | gone n o =>
      have hs : SqT K H t [.str "gone", .int n] := SqT.of ht
      refine skip hs (by decide) ?_
      refine skip hs (by decide) ?_
      refine skip hs (by decide) ?_
      obtain ⟨kvs, hb1, pr, nd⟩ := id t1
      rcases pr_look (R := SpcAt K H) eI_inj (k := n) pr with ⟨e0, hz⟩ | ⟨sp, z, e0, hz, az⟩
      · refine ⟨_, rfl, t, _, _, _, rfl, rfl, hs, atI_nat (j := 1) rfl, _, rfl, a, .ref b1, rfl, .inl ⟨_, .inr "spaces", .inl ha, rfl, rfl⟩, b1, none, rfl, .inl ⟨_, .inl n, .inl hb1, rfl, hz.symm⟩, _, rfl, ?_⟩
        refine ⟨_, rfl, q a H (Same.refl _) ?_⟩
        rw [after_in (n := n) rfl, e0]; exact SA
      · refine ⟨_, rfl, t, _, _, _, rfl, rfl, hs, atI_nat (j := 1) rfl, _, rfl, a, .ref b1, rfl, .inl ⟨_, .inr "spaces", .inl ha, rfl, rfl⟩, b1, some z, rfl, .inl ⟨_, .inl n, .inl hb1, rfl, hz.symm⟩, _, rfl, ?_⟩
        refine ⟨_, rfl, _, rfl, _, rfl, a, t, v, st, _, n, sp, rfl, SA, G, ⟨ht, hv⟩, eok, rfl, e0, fun D H' s1 sa => q D H' s1 ?_⟩
        rw [after_in (n := n) rfl, e0]; exact sa
    | snap n m b =>
      have hs : SqT K H t [.str "snap", .int n, .int m] := SqT.of ht
      refine skip hs (by decide) ?_
      refine skip hs (by decide) ?_
      refine skip hs (by decide) ?_
      obtain ⟨kvs, hb1, pr, nd⟩ := id t1
      rcases pr_look (R := SpcAt K H) eI_inj (k := n) pr with ⟨e0, hz⟩ | ⟨sp, z, e0, hz, az⟩
      · refine ⟨_, rfl, t, _, _, _, rfl, rfl, hs, atI_nat (j := 1) rfl, _, rfl, a, .ref b1, rfl, .inl ⟨_, .inr "spaces", .inl ha, rfl, rfl⟩, b1, none, rfl, .inl ⟨_, .inl n, .inl hb1, rfl, hz.symm⟩, _, rfl, ?_⟩
        refine ⟨_, rfl, q a H (Same.refl _) ?_⟩
        rw [after_in (n := n) rfl, e0]; exact SA
      · refine ⟨_, rfl, t, _, _, _, rfl, rfl, hs, atI_nat (j := 1) rfl, _, rfl, a, .ref b1, rfl, .inl ⟨_, .inr "spaces", .inl ha, rfl, rfl⟩, b1, some z, rfl, .inl ⟨_, .inl n, .inl hb1, rfl, hz.symm⟩, _, rfl, ?_⟩
        refine ⟨_, rfl, _, rfl, _, rfl, a, t, v, st, _, n, sp, rfl, SA, G, ⟨ht, hv⟩, eok, rfl, e0, fun D H' s1 sa => q D H' s1 ?_⟩
        rw [after_in (n := n) rfl, e0]; exact sa
    | place n pl x =>
      have hs : SqT K H t [.str "place", .int n, .int pl] := SqT.of ht
      refine skip hs (by decide) ?_
      refine skip hs (by decide) ?_
      refine skip hs (by decide) ?_
      obtain ⟨kvs, hb1, pr, nd⟩ := id t1
      rcases pr_look (R := SpcAt K H) eI_inj (k := n) pr with ⟨e0, hz⟩ | ⟨sp, z, e0, hz, az⟩
      · refine ⟨_, rfl, t, _, _, _, rfl, rfl, hs, atI_nat (j := 1) rfl, _, rfl, a, .ref b1, rfl, .inl ⟨_, .inr "spaces", .inl ha, rfl, rfl⟩, b1, none, rfl, .inl ⟨_, .inl n, .inl hb1, rfl, hz.symm⟩, _, rfl, ?_⟩
        refine ⟨_, rfl, q a H (Same.refl _) ?_⟩
        rw [after_in (n := n) rfl, e0]; exact SA
      · refine ⟨_, rfl, t, _, _, _, rfl, rfl, hs, atI_nat (j := 1) rfl, _, rfl, a, .ref b1, rfl, .inl ⟨_, .inr "spaces", .inl ha, rfl, rfl⟩, b1, some z, rfl, .inl ⟨_, .inl n, .inl hb1, rfl, hz.symm⟩, _, rfl, ?_⟩
        refine ⟨_, rfl, _, rfl, _, rfl, a, t, v, st, _, n, sp, rfl, SA, G, ⟨ht, hv⟩, eok, rfl, e0, fun D H' s1 sa => q D H' s1 ?_⟩
        rw [after_in (n := n) rfl, e0]; exact sa
    | key n h k =>
      have hs : SqT K H t [.str "key", .int n, .int h] := SqT.of ht
      refine skip hs (by decide) ?_
      refine skip hs (by decide) ?_
      refine skip hs (by decide) ?_
      obtain ⟨kvs, hb1, pr, nd⟩ := id t1
      rcases pr_look (R := SpcAt K H) eI_inj (k := n) pr with ⟨e0, hz⟩ | ⟨sp, z, e0, hz, az⟩
      · refine ⟨_, rfl, t, _, _, _, rfl, rfl, hs, atI_nat (j := 1) rfl, _, rfl, a, .ref b1, rfl, .inl ⟨_, .inr "spaces", .inl ha, rfl, rfl⟩, b1, none, rfl, .inl ⟨_, .inl n, .inl hb1, rfl, hz.symm⟩, _, rfl, ?_⟩
        refine ⟨_, rfl, q a H (Same.refl _) ?_⟩
        rw [after_in (n := n) rfl, e0]; exact SA
      · refine ⟨_, rfl, t, _, _, _, rfl, rfl, hs, atI_nat (j := 1) rfl, _, rfl, a, .ref b1, rfl, .inl ⟨_, .inr "spaces", .inl ha, rfl, rfl⟩, b1, some z, rfl, .inl ⟨_, .inl n, .inl hb1, rfl, hz.symm⟩, _, rfl, ?_⟩
        refine ⟨_, rfl, _, rfl, _, rfl, a, t, v, st, _, n, sp, rfl, SA, G, ⟨ht, hv⟩, eok, rfl, e0, fun D H' s1 sa => q D H' s1 ?_⟩
        rw [after_in (n := n) rfl, e0]; exact sa
    | hold n hd =>
      have hs : SqT K H t [.str "hold", .int n] := SqT.of ht
      refine skip hs (by decide) ?_
      refine skip hs (by decide) ?_
      refine skip hs (by decide) ?_
      obtain ⟨kvs, hb1, pr, nd⟩ := id t1
      rcases pr_look (R := SpcAt K H) eI_inj (k := n) pr with ⟨e0, hz⟩ | ⟨sp, z, e0, hz, az⟩
      · refine ⟨_, rfl, t, _, _, _, rfl, rfl, hs, atI_nat (j := 1) rfl, _, rfl, a, .ref b1, rfl, .inl ⟨_, .inr "spaces", .inl ha, rfl, rfl⟩, b1, none, rfl, .inl ⟨_, .inl n, .inl hb1, rfl, hz.symm⟩, _, rfl, ?_⟩
        refine ⟨_, rfl, q a H (Same.refl _) ?_⟩
        rw [after_in (n := n) rfl, e0]; exact SA
      · refine ⟨_, rfl, t, _, _, _, rfl, rfl, hs, atI_nat (j := 1) rfl, _, rfl, a, .ref b1, rfl, .inl ⟨_, .inr "spaces", .inl ha, rfl, rfl⟩, b1, some z, rfl, .inl ⟨_, .inl n, .inl hb1, rfl, hz.symm⟩, _, rfl, ?_⟩
        refine ⟨_, rfl, _, rfl, _, rfl, a, t, v, st, _, n, sp, rfl, SA, G, ⟨ht, hv⟩, eok, rfl, e0, fun D H' s1 sa => q D H' s1 ?_⟩
        rw [after_in (n := n) rfl, e0]; exact sa
end
end Sg

set_option Elab.async false
set_option linter.all false
set_option maxRecDepth 100000
set_option maxHeartbeats 4000000
namespace Sg
open PySem PySem.Spec PyProof.Rows L2
/-! ### what grows with an effect -/
theorem mem_del {α β : Type} [DecidableEq α] {l : List (α × β)} {k : α} {p : α × β} (h : p ∈ delI l k) : p ∈ l := (List.mem_filter.mp h).1
theorem mem_put {α β : Type} [DecidableEq α] {l : List (α × β)} {k : α} {v : β} {p : α × β} (h : p ∈ putI l k v) : p ∈ l ∨ p = (k, v) := by
  rcases List.mem_append.mp h with h | h
  · exact .inl (mem_del h)
  · exact .inr (List.mem_singleton.mp h)
theorem mem_set' {α β : Type} [DecidableEq α] {l : List (α × β)} {k : α} {v : Option β} {p : α × β} (h : p ∈ setI l k v) : p ∈ l ∨ ∃ w, v = some w ∧ p = (k, w) := by
  cases v with
  | none => exact .inl (mem_del h)
  | some v => exact (mem_put h).imp id fun e => ⟨v, rfl, e⟩
theorem StG.mono {n m : Nat} {st : Sta} (h : StG n st) (l : n ≤ m) : StG m st := ⟨h.sm.mono l, fun p hp => ⟨(h.rg p hp).1, Nat.le_trans (h.rg p hp).2 l⟩⟩
theorem StG.order {n : Nat} {st : Sta} {o : Int} (h : StG n st) : StG n { st with o := o } := ⟨⟨h.sm.sp, h.sm.sn, h.sm.mr, h.sm.cs, h.sm.cn⟩, h.rg⟩
theorem StG.marks {n : Nat} {st : Sta} {k : Int} {m : Mrk} (h : StG n st) : StG (n + 1) { st with mr := putI st.mr k m } := by
  have h' := h.mono (Nat.le_succ n)
  exact ⟨⟨h'.sm.sp, h'.sm.sn, Nat.le_trans (set_len (v := some m)) (Nat.succ_le_succ h.sm.mr), h'.sm.cs, h'.sm.cn⟩, h'.rg⟩
theorem StG.space {n : Nat} {st : Sta} {k : Int} {s : Spc} (h : StG n st) (h1 : s.cs.length ≤ n + 1) (h2 : (s.rg.map (·.1)).Nodup) (h3 : s.rg.length ≤ n + 1) : StG (n + 1) { st with sp := putI st.sp k s } := by
  have h' := h.mono (Nat.le_succ n)
  refine ⟨⟨Nat.le_trans (set_len (v := some s)) (Nat.succ_le_succ h.sm.sp), h'.sm.sn, h'.sm.mr, fun p hp => ?_, h'.sm.cn⟩, fun p hp => ?_⟩
  · rcases mem_put hp with hp | rfl
    · exact h'.sm.cs p hp
    · exact h1
  · rcases mem_put hp with hp | rfl
    · exact h'.rg p hp
    · exact ⟨h2, h3⟩
theorem StG.snaps {n : Nat} {st : Sta} {k : Int × Int} {v : Option Cells} (h : StG n st) (h1 : ∀ c, v = some c → c.length ≤ n + 1) : StG (n + 1) { st with sn := setI st.sn k v } := by
  have h' := h.mono (Nat.le_succ n)
  refine ⟨⟨h'.sm.sp, Nat.le_trans set_len (Nat.succ_le_succ h.sm.sn), h'.sm.mr, h'.sm.cs, fun p hp => ?_⟩, h'.rg⟩
  rcases mem_set' hp with hp | ⟨w, e, rfl⟩
  · exact h'.sm.cn p hp
  · exact h1 w e
theorem StG.gone {n : Nat} {st : Sta} {k : Int} (h : StG n st) : StG n (goneS k st) :=
  ⟨⟨Nat.le_trans del_len h.sm.sp, Nat.le_trans (List.length_filter_le _ _) h.sm.sn, h.sm.mr, fun p hp => h.sm.cs p (mem_del hp), fun p hp => h.sm.cn p (List.mem_filter.mp hp).1⟩, fun p hp => h.rg p (mem_del hp)⟩
theorem snap_len {cs : Cells} {n : Nat} {b : Option Int} (c1 : cs.length ≤ n) : ∀ c, (b.map fun _ => cs) = some c → c.length ≤ n + 1 := fun c e => by
  cases b with
  | none => cases e
  | some b =>
    obtain rfl : cs = c := Option.some.inj e
    exact Nat.le_succ_of_le c1
theorem StG.within {n : Nat} {st : Sta} {e : Eff} {k : Int} {s : Spc} (h : StG n st) (hs : (k, s) ∈ st.sp) : StG (n + 1) (within s e st) := by
  have h' := h.mono (Nat.le_succ n)
  have c1 : s.cs.length ≤ n := h.sm.cs _ hs
  have r1 : (s.rg.map (·.1)).Nodup := (h.rg _ hs).1
  have r2 : s.rg.length ≤ n := (h.rg _ hs).2
  cases e with
  | gone n' o => exact h'.gone
  | snap n' m b => exact h.snaps (snap_len c1)
  | place n' p v => exact h.space (Nat.le_trans set_len (Nat.succ_le_succ c1)) r1 (Nat.le_succ_of_le r2)
  | key n' hh x =>
    cases x with
    | none => exact h.space (Nat.le_succ_of_le c1) (filt_nodup r1) (Nat.le_trans out_len (Nat.le_succ_of_le r2))
    | some x => exact h.space (Nat.le_succ_of_le c1) (ins_nodup r1) (Nat.le_trans ins_len (Nat.succ_le_succ r2))
  | hold n' hd => exact h.space (Nat.le_succ_of_le c1) r1 (Nat.le_succ_of_le r2)
  | host _ _ _ _ => exact h'
  | told _ _ => exact h'
  | space _ _ => exact h'
theorem StG.after {n : Nat} {st : Sta} {e : Eff} (h : StG n st) : StG (n + 1) (afterE e st) := by
  have h' := h.mono (Nat.le_succ n)
  have inn : ∀ m, spaceOf e = some m → StG (n + 1) (afterE e st) := fun m hm => by
    rw [after_in hm]
    cases hl : lookI st.sp m with
    | none => exact h'
    | some s => exact h.within (look_mem hl)
  cases e with
  | host hh s c an => exact h.marks
  | told hh d =>
    cases hl : lookI st.mr hh with
    | none => simp only [afterE, hl]; exact h'
    | some m => rw [after_told hl]; exact h.marks
  | space m z => exact h.space (Nat.zero_le _) List.nodup_nil (Nat.zero_le _)
  | gone m o => exact inn m rfl
  | snap m _ _ => exact inn m rfl
  | place m _ _ => exact inn m rfl
  | key m _ _ => exact inn m rfl
  | hold m _ => exact inn m rfl
theorem StG.afters {n : Nat} : ∀ {es : List Eff} {st : Sta}, StG n st → StG (n + es.length) (es.foldl (fun s e => afterE e s) st)
  | [], st, h => h
  | e :: es, st, h => by
    have := StG.afters (es := es) (h.after (e := e))
    rw [List.foldl_cons, List.length_cons, show n + (es.length + 1) = n + 1 + es.length from by omega]; exact this
theorem effs_len {r : Rc} : (effsR r).length ≤ 3 := by
  unfold effsR
  cases r.b with
  | leave n b => cases b <;> simp [effsB]
  | preempt n v w => cases w <;> simp [effsB]
  | _ => simp [effsB]
theorem StG.record {n : Nat} {st : Sta} {r : Rc} (h : StG n st) : StG (n + 3) (afterR st r) := (StG.afters (es := effsR r) (h.order (o := r.o))).mono (by have := effs_len (r := r); omega)
theorem look_put {α β : Type} [DecidableEq α] {l : List (α × β)} {k : α} {v : β} : lookI (putI l k v) k = some v := by
  unfold lookI putI
  have : (delI l k).find? (fun p => decide (p.1 = k)) = none := by
    rw [List.find?_eq_none]
    intro p hp
    have := (List.mem_filter.mp hp).2
    simpa using this
  rw [List.find?_append, this]; simp
/-- a host is told only behind its mark -/
theorem told_ok {r : Rc} {st : Sta} {i : Nat} {h : Int} {d : PyData} (e : (effsR r)[i]? = some (.told h d)) : ∃ m, lookI (((effsR r).take i).foldl (fun s e => afterE e s) st).mr h = some m := by
  unfold effsR at e ⊢
  cases i with
  | zero => simp at e
  | succ i =>
    rw [List.getElem?_cons_succ] at e
    have hb : ∃ d', r.b = .mark d' := by
      cases hb : r.b with
      | mark d' => exact ⟨d', rfl⟩
      | leave n b => rw [hb] at e; cases b <;> (have := List.mem_of_getElem? e; simp [effsB] at this)
      | preempt n v w => rw [hb] at e; cases w <;> (have := List.mem_of_getElem? e; simp [effsB] at this)
      | _ => rw [hb] at e; have := List.mem_of_getElem? e; simp [effsB] at this
    obtain ⟨d', hb⟩ := hb
    rw [hb] at e ⊢
    cases i with
    | succ i => simp [effsB] at e
    | zero =>
      obtain ⟨rfl, rfl⟩ : r.h = h ∧ d' = d := by simpa [effsB] using e
      exact ⟨_, look_put⟩
def bdOk : Bd → Prop
  | .reserve _ w => PyData.strOk w = true
  | .preempt _ _ (some w) => PyData.strOk w = true
  | _ => True
theorem effs_ok {r : Rc} (h : bdOk r.b) : ∀ e ∈ effsR r, efOk e := fun e he => by
  unfold effsR at he
  rcases List.mem_cons.mp he with rfl | he
  · exact True.intro
  · cases hb : r.b with
    | reserve n w => rw [hb] at he h; simp [effsB] at he; subst he; intro a b e; cases e; exact h
    | leave n b => rw [hb] at he; cases b <;> (simp [effsB] at he) <;> (try rcases he with rfl | rfl) <;> (try subst he) <;> first | exact True.intro | (intro a b e; cases e)
    | preempt n v w =>
      rw [hb] at he h
      cases w with
      | none => simp [effsB] at he; subst he; exact True.intro
      | some w => simp [effsB] at he; rcases he with rfl | rfl
                  · exact True.intro
                  · intro a b e; cases e; exact h
    | release n => rw [hb] at he; simp [effsB] at he; subst he; intro a b e; cases e
    | _ => rw [hb] at he; simp [effsB] at he; subst he; exact True.intro
end Sg

set_option Elab.async false
set_option linter.all false
set_option maxRecDepth 100000
set_option maxHeartbeats 4000000
namespace Sg
open PySem PySem.Spec PyProof.Rows L2
/-! ### new_state, apply_record, fold -/
def emptyS : Sta := ⟨0, [], [], []⟩
def spNewState (K : PySem.W.Frag) : Sp := fun vs H Q _ => vs = [] ∧ ∀ D H', Same H H' → StAt K H' D emptyS → Q (.ref D) H'
def spApply (K : PySem.W.Frag) : Sp := fun vs H Q _ => ∃ (a t : Addr) (st : Sta) (r : Rc), vs = [.ref a, .ref t] ∧ StAt K H a st ∧ StG 800 st ∧ RecAt K H t r ∧ bdOk r.b ∧ ∀ D H', Same H H' → StAt K H' D (afterR st r) → Q (.ref D) H'
def foldR (rs : List Rc) : Sta := rs.foldl afterR emptyS
def spFold (K : PySem.W.Frag) : Sp := fun vs H Q _ => ∃ (a : Addr) (ts : List Addr) (rs : List Rc), vs = [.ref a] ∧ SqL K H a (ts.map V.ref) ∧ Paired (RecAt K H) ts rs ∧ rs.length ≤ 200 ∧ (∀ r ∈ rs, RGood r ∧ bdOk r.b) ∧ (∀ x ∈ rs, ∀ y ∈ rs, x.o = y.o → x = y) ∧
  ∀ D rs' H', Same H H' → rs'.Pairwise (fun x y => x.o < y.o) → (∀ r, r ∈ rs' ↔ r ∈ rs) → StAt K H' D (foldR rs') → Q (.ref D) H'
theorem empty_g : StG 0 emptyS := ⟨⟨Nat.le_refl _, Nat.le_refl _, Nat.le_refl _, (fun _ h => nomatch h), (fun _ h => nomatch h)⟩, (fun _ h => nomatch h)⟩
theorem fold_g : ∀ {rs : List Rc} {n : Nat} {st : Sta}, StG n st → StG (n + 3 * rs.length) (rs.foldl afterR st)
  | [], n, st, h => h
  | r :: rs, n, st, h => by
    have := fold_g (rs := rs) (h.record (r := r))
    rw [List.foldl_cons, List.length_cons, show n + 3 * (rs.length + 1) = n + 3 + 3 * rs.length from by omega]; exact this
theorem tab_nil {K : PySem.W.Frag} {κ α β : Type} [DecidableEq κ] [DecidableEq α] {T : TKd K κ} {R : Hp → V → β → Prop} {emb : α → κ} {H : Hp} {d : Addr} (h : H d = some (T.ho [])) : TabAt T R emb H d ([] : List (α × β)) := ⟨[], h, .nil, List.nodup_nil⟩
theorem nodup_len {α : Type} [DecidableEq α] : ∀ {l m : List α}, l.Nodup → (∀ x ∈ l, x ∈ m) → l.length ≤ m.length
  | [], _, _, _ => Nat.zero_le _
  | x :: l, m, nd, h => by
    rw [List.nodup_cons] at nd
    have hx := h x List.mem_cons_self
    have := nodup_len (l := l) (m := m.erase x) nd.2 fun y hy => (List.mem_erase_of_ne (fun e => nd.1 (by rw [← e]; exact hy))).mpr (h y (List.mem_cons_of_mem _ hy))
    rw [List.length_erase_of_mem hx] at this
    have := List.length_pos_of_mem hx
    rw [List.length_cons]; omega
theorem asc_len {rs rs' : List Rc} (asc : rs'.Pairwise (fun x y => x.o < y.o)) (mem : ∀ r, r ∈ rs' ↔ r ∈ rs) : rs'.length ≤ rs.length := by
  have nd : (rs'.map (·.o)).Nodup := by
    unfold List.Nodup
    rw [List.pairwise_map]
    exact asc.imp fun h e => by omega
  have := nodup_len (m := rs.map (·.o)) nd fun x hx => by
    obtain ⟨r, hr, e⟩ := List.mem_map.mp hx
    exact List.mem_map.mpr ⟨r, (mem r).mp hr, e⟩
  rw [List.length_map, List.length_map] at this
  exact this
section
variable {P : Program} {wd : World} {K : PySem.W.Frag} {mg : Str → Option Value} {base : Heap} {f fE fA fN fO fP : Addr} {fd fdE fdA fdN fdO fdP : FuncData}
theorem asg_e {te : TE} {g : TG} {r : TS} {D : Ends} {σ : L2.St} {H : Hp} (h : te σ H fun x H1 => g x σ H1 fun σ' H' => r D σ' H') : tSeq (tAsg te g) r D σ H := h
theorem new_te {σ : L2.St} {H : Hp} {Q : VK} (q : ∀ D H', Same H H' → StAt K H' D emptyS → Q (.ref D) H') : tDisp [(tC (.str "order"), tC (.int 0)), (tC (.str "spaces"), tDNewK), (tC (.str "snaps"), tDNewT), (tC (.str "marks"), tDNewK)] σ H Q := by
  intro D hD d1 h1 d2 h2 d3 h3
  have s0 := same_new (o := .dK []) hD
  have s1 := same_new (o := .dK []) h1
  have s2 := same_new (o := .dT []) h2
  have s3 := same_new (o := .dK []) h3
  have u0 : (upd H D (.dK [])) D = some (.dK []) := upd_same
  have u1 : (upd (upd H D (.dK [])) d1 (.dK [])) d1 = some (.dK []) := upd_same
  have u2 : (upd (upd (upd H D (.dK [])) d1 (.dK [])) d2 (.dT [])) d2 = some (.dT []) := upd_same
  have e1 := s3 _ _ (s2 _ _ u1)
  have e2 := s3 _ _ u2
  have e3 : (upd (upd (upd (upd H D (.dK [])) d1 (.dK [])) d2 (.dT [])) d3 (.dK [])) d3 = some (.dK []) := upd_same
  have eD := s3 _ _ (s2 _ _ (s1 _ _ u0))
  have n1 : d1 ≠ D := fun e => by rw [e, upd_same] at h1; cases h1
  have n2 : d2 ≠ D := fun e => by rw [e, s1 _ _ upd_same] at h2; cases h2
  have n3 : d3 ≠ D := fun e => by rw [e, s2 _ _ (s1 _ _ upd_same)] at h3; cases h3
  refine ⟨eD, stK 0 d1 d2 d3, rfl, by show 4 ≤ 15; decide, q D _ (fun b u e => ?_) ⟨d1, d2, d3, upd_same, tab_nil ?_, tab_nil ?_, tab_nil ?_⟩⟩
  · have : b ≠ D := fun w => by rw [w, hD] at e; cases e
    rw [upd_ne this]; exact s3 _ _ (s2 _ _ (s1 _ _ (s0 _ _ e)))
  · rw [upd_ne n1]; exact e1
  · rw [upd_ne n2]; exact e2
  · rw [upd_ne n3]; exact e3
theorem scNewState : FnScope [] [] (defScope sNewState) := ⟨rfl, rfl, rfl, by decide +kernel, rfl, by decide +kernel, by decide +kernel⟩
theorem ok_newState (F : Fun K "new_state" "new_state" sNewState f fd) : FnOk P wd K mg base CX0 1 f fd [] (spNewState K) := by
  refine F.ok scNewState (fun vs H Q E h => ?_) (fun cdv A outer s H vs Q E hr h => ?_)
  · obtain ⟨rfl, _⟩ := h
    rfl
  · obtain ⟨rfl, q⟩ := h
    refine ⟨_, (pss_one (ps_ret (pe_disp (pps_cons pe_str pe_int (pps_cons pe_str pe_dnewK (pps_cons pe_str pe_dnewT (pps_cons pe_str pe_dnewK pps_nil)))) rfl rfl (by decide) (by decide)))), ?_⟩
    exact new_te q
theorem scApply : FnScope ["state", "record", "after", "topic", "value"] ["state", "record"] (defScope sApply) := ⟨rfl, rfl, rfl, by decide +kernel, rfl, by decide +kernel, by decide +kernel⟩
theorem ok_apply (F : Fun K "apply_record" "apply_record" sApply f fd) (GE : Def P wd K mg base CX0 "effects" 2 ["record"] (spEffects K) fE fdE) (GA : Def P wd K mg base CX0 "_after_effect" 5 ["state","topic","value"] (spAfterEff K) fA fdA) : FnOk P wd K mg base CX0 6 f fd ["state","record"] (spApply K) := by
  refine F.ok scApply (fun vs H Q E h => ?_) (fun cdv A outer s H vs Q E hr h => ?_)
  · obtain ⟨a, t, st, r, rfl, _⟩ := h
    rfl
  · obtain ⟨a, t, st, r, rfl, SA, G, RA, bok, q⟩ := h
    have hr5 : Room 5 _ := hr.mono (by decide)
    have hr2 : Room 2 _ := hr.mono (by decide)
    refine ⟨_, (pss_cons (ps_set (i := 2) scApply.nd rfl (Or.inl rfl) (pe_dstar (pv 0) pe_str (pe_ix ix_tup (pv 1) pe_int (fun _ _ => rfl))))
      (pss_cons (ps_for PassesOwn.never rfl (pi_list (pe_call GE.ok hr2 (by rfl) GE.mg GE.kp GE.bd .nil pass0 (pa_cons (pv 1) pa_nil))) (pg_tup (by rfl) (pgs_cons (pg_name (i := 3) scApply.nd rfl (Or.inl rfl)) (pgs_cons (pg_name (i := 4) scApply.nd rfl (Or.inl rfl)) L2.pgs_nil)))
      (pss_one (ps_set (i := 2) scApply.nd rfl (Or.inl rfl) (pe_call GA.ok hr5 (by rfl) GA.mg GA.kp GA.bd .nil pass0 (pa_cons (pv 2) (pa_cons (pv 3) (pa_cons (pv 4) pa_nil)))))))
      (pss_one (ps_ret (pv 2))))), ?_⟩
    obtain ⟨b1, b2, b3, ha, t1, t2, t3⟩ := id SA
    obtain ⟨ys, hsq, _⟩ := id RA
    refine asg_e ?_
    refine star_gen (part := "order") (Pa := fun o' c1 c2 c3 _ _ => o' = st.o ∧ c1 = b1 ∧ c2 = b2 ∧ c3 = b3) (Tz := fun x _ _ => x = .int r.o) (star_var rfl ha) (fun G R k => k) (fun o' c1 c2 c3 G H1 H2 R _ sG nw s2 k => ⟨_, rfl, t, _, _, _, rfl, rfl, SqT_same s2 hsq, atI_nat (j := 0) rfl, k _ _ (Same.refl _) rfl⟩) (fun D o' c1 c2 c3 x G' H1 H2 H3 H' hD ⟨e0, e1, e2, e3⟩ sG s2 nw ex keep sH hDD => ?_)
    subst e0 e1 e2 e3 ex
    have S0 : StAt K H' D { st with o := r.o } := ⟨c1, c2, c3, hDD, TabAt.same (fun _ _ z => z.same sH) sH t1, TabAt.same (fun _ _ z => z.same sH) sH t2, TabAt.same (fun _ _ z => z.same sH) sH t3⟩
    refine ⟨_, rfl, t, r, rfl, RA.same sH, fun l ps H1 s1 hl pr => ⟨l, rfl, ⟨_, SqL.of hl⟩, ?_⟩⟩
    rw [effsR_ef] at pr
    have plen := Paired.length pr
    rw [List.length_map] at plen
    refine for_list (K := K) (a := l) (xs := ps.map V.ref) (fun i σ' G1 => ∃ (v3 v4 : Option V) (D1 : Addr), σ' = [some (.ref a), some (.ref t), some (.ref D1), v3, v4] ∧ Same H1 G1 ∧ StAt K G1 D1 (((effsR r).take i).foldl (fun s e => afterE e s) { st with o := r.o }))
      ⟨none, none, D, rfl, Same.refl _, S0.same s1⟩ (fun i σ' G1 _ ⟨_, _, _, _, sm, _⟩ => SqL.of (sm _ _ hl)) ?_ ?_
    · rintro i x σ' G1 hx ⟨v3, v4, D1, rfl, sm, S1⟩
      obtain ⟨e, hei, rfl⟩ := map_get hx
      obtain ⟨ef, hefi, he⟩ := paired_at pr hei
      rw [List.getElem?_map] at hefi
      obtain ⟨e', he', rfl⟩ : ∃ e', (effsR r)[i]? = some e' ∧ ef = toEf e' := by
        cases hq : (effsR r)[i]? with
        | none => rw [hq] at hefi; cases hefi
        | some e' => rw [hq] at hefi; exact ⟨e', rfl, (Option.some.inj hefi).symm⟩
      obtain ⟨tt, v, a1, a2, a3⟩ := he
      refine ⟨e, _, rfl, SqT.of (sm _ _ a1), rfl, _, _, rfl, _, _, rfl, rfl, ?_⟩
      have il := (List.getElem?_eq_some_iff.mp he').1
      have e3 := effs_len (r := r)
      have tki : (effsR r).take (i + 1) = (effsR r).take i ++ [e'] := by rw [List.take_add_one, he']; rfl
      refine ⟨_, rfl, _, rfl, _, rfl, D1, tt, v, _, e', rfl, S1, ?_, ⟨sm _ _ a2, dp_same sm _ _ a3⟩, effs_ok bok _ (List.mem_of_getElem? he'), fun h d eq => told_ok (by rw [he', eq]), fun D2 G2 s2 S2 => ?_⟩
      · refine (StG.afters (es := (effsR r).take i) (G.order (o := r.o))).mono ?_
        rw [List.length_take]; omega
      · refine ⟨_, _, D2, rfl, sm.trans s2, ?_⟩
        rw [tki, List.foldl_append]; exact S2
    · rintro σ' G1 ⟨v3, v4, D1, rfl, sm, S1⟩
      refine ⟨_, rfl, q D1 G1 (sH.trans (s1.trans sm)) ?_⟩
      rw [List.length_map, plen, List.take_length] at S1
      exact S1
theorem scFold : FnScope ["records", "state", "record"] ["records"] (defScope sFold) := ⟨rfl, rfl, rfl, by decide +kernel, rfl, by decide +kernel, by decide +kernel⟩
theorem ok_fold (F : Fun K "fold" "fold" sFold f fd) (GN : Def P wd K mg base CX0 "new_state" 1 [] (spNewState K) fN fdN) (GO : Def P wd K mg base CX0 "each_once" 1 ["records"] (spOnce K) fO fdO) (GP : Def P wd K mg base CX0 "apply_record" 6 ["state","record"] (spApply K) fP fdP) : FnOk P wd K mg base CX0 7 f fd ["records"] (spFold K) := by
  refine F.ok scFold (fun vs H Q E h => ?_) (fun cdv A outer s H vs Q E hr h => ?_)
  · obtain ⟨a, ts, rs, rfl, _⟩ := h
    rfl
  · obtain ⟨a, ts, rs, rfl, ha, pr, hn, hg, hu, q⟩ := h
    have hr6 : Room 6 _ := hr.mono (by decide)
    have hr1 : Room 1 _ := hr.mono (by decide)
    refine ⟨_, (pss_cons (ps_set (i := 1) scFold.nd rfl (Or.inl rfl) (pe_call0 GN.ok hr1 (by rfl) GN.mg GN.kp GN.bd .nil pass0))
      (pss_cons (ps_for PassesOwn.never rfl (pi_list (pe_call GO.ok hr1 (by rfl) GO.mg GO.kp GO.bd .nil pass0 (pa_cons (pv 0) pa_nil))) (pg_name (i := 2) scFold.nd rfl (Or.inl rfl))
      (pss_one (ps_set (i := 1) scFold.nd rfl (Or.inl rfl) (pe_call GP.ok hr6 (by rfl) GP.mg GP.kp GP.bd .nil pass0 (pa_cons (pv 1) (pa_cons (pv 2) pa_nil))))))
      (pss_one (ps_ret (pv 1))))), ?_⟩
    refine ⟨rfl, fun D H1 s1 S0 => ?_⟩
    refine ⟨_, rfl, a, ts, rs, rfl, s1.seq ha, Paired.imp2 (fun _ _ z => z.same s1) pr, by omega, fun r hr' => (hg r hr').1, hu, fun l ts' rs' H2 s2 _ hl pr2 asc mem => ⟨l, rfl, ⟨_, SqL.of hl⟩, ?_⟩⟩
    have s12 := s1.trans s2
    have len : rs'.length ≤ 200 := Nat.le_trans (asc_len asc mem) hn
    have pl := Paired.length pr2
    refine for_list (K := K) (a := l) (xs := ts'.map V.ref) (fun i σ' G1 => ∃ (v2 : Option V) (D1 : Addr), σ' = [some (.ref a), some (.ref D1), v2] ∧ Same H2 G1 ∧ StAt K G1 D1 ((rs'.take i).foldl afterR emptyS))
      ⟨none, D, rfl, Same.refl _, S0.same s2⟩ (fun i σ' G1 _ ⟨_, _, _, sm, _⟩ => SqL.of (sm _ _ hl)) ?_ ?_
    · rintro i x σ' G1 hx ⟨v2, D1, rfl, sm, S1⟩
      obtain ⟨t, hti, rfl⟩ := map_get hx
      obtain ⟨r, hri, hrt⟩ := paired_at pr2 hti
      have il := (List.getElem?_eq_some_iff.mp hri).1
      have tki : rs'.take (i + 1) = rs'.take i ++ [r] := by rw [List.take_add_one, hri]; rfl
      refine ⟨_, rfl, _, rfl, D1, t, _, r, rfl, S1, (fold_g (rs := rs'.take i) empty_g).mono (by rw [List.length_take]; omega), hrt.same sm, (hg r ((mem r).mp (List.mem_of_getElem? hri))).2, fun D2 G2 s3 S2 => ?_⟩
      refine ⟨_, D2, rfl, sm.trans s3, ?_⟩
      rw [tki, List.foldl_append]; exact S2
    · rintro σ' G1 ⟨v2, D1, rfl, sm, S1⟩
      refine ⟨_, rfl, q D1 rs' G1 (s12.trans sm) asc mem ?_⟩
      rw [List.length_map, pl, List.take_length] at S1
      exact S1
end
end Sg

set_option Elab.async false
set_option linter.all false
set_option maxRecDepth 100000
set_option maxHeartbeats 4000000
namespace Sg
open PySem PySem.Spec PyProof.Rows L2
/-! ### [(x, d[x]) for x in d if ..]: the law's way to copy a table -/
theorem lc_it {J : It} {n : Nat} {G : Hp → Prop} {Y : Nat → Hp → V → Hp → Prop} (w : Walk J n G Y) {g : TG} {tt : TT} {te : TE} {vs : List Nat} {σ : L2.St} {H1 : Hp} {D : Addr} {Qd : Hp → Prop} (Pv : Nat → Hp → Prop) (h0 : Pv 0 (upd H1 D (.lst []))) (hG : ∀ i H, i ≤ n → Pv i H → G H)
    (hs : ∀ i x H H', i < n → Pv i H → Y i H x H' → g x (wipe σ vs) H' fun σ2 H2 => wipe σ2 vs = wipe σ vs ∧ tt σ2 H2 fun b H3 =>
      if b = true then te σ2 H3 fun y H4 => ∃ acc, H4 D = some (.lst acc) ∧ acc.length < sizeLine ∧ Pv (i + 1) (upd H4 D (.lst (acc ++ [y]))) else Pv (i + 1) H3) (hd : ∀ H, Pv n H → Qd H) :
    ∃ W : Nat → Nat → Hp → Prop, (∃ m, W 0 m (upd H1 D (.lst []))) ∧ ∀ i m H, W i m H →
      (J.stop i H ∧ Qd H) ∨ (J.go i H ∧ ∃ Nx : Hp → Prop, (∀ H', Nx H' → ∃ m', m' < m ∧ W (i + 1) m' H') ∧ ∀ x H', J.yld i H x H' → g x (wipe σ vs) H' fun σ2 H2 => wipe σ2 vs = wipe σ vs ∧ tt σ2 H2 fun b H3 =>
        if b = true then te σ2 H3 fun y H4 => ∃ acc, H4 D = some (.lst acc) ∧ acc.length < sizeLine ∧ Nx (upd H4 D (.lst (acc ++ [y]))) else Nx H3) := by
  refine ⟨fun i m H => m + i = n ∧ Pv i H, ⟨n, rfl, h0⟩, fun i m H ⟨e, p⟩ => ?_⟩
  cases m with
  | zero =>
    have e' : i = n := by omega
    subst e'
    exact .inl ⟨w.stops H (hG _ H (Nat.le_refl _) p), hd H p⟩
  | succ m =>
    have lt : i < n := by omega
    have q := hG i H (Nat.le_of_lt lt) p
    exact .inr ⟨w.goes i H lt q, Pv (i + 1), fun H' p' => ⟨m, Nat.lt_succ_self m, by omega, p'⟩, fun x H' y => hs i x H H' lt p (w.yields i H x H' lt q y)⟩
section
variable {K : PySem.W.Frag} {κ : Type} [DecidableEq κ]
theorem tk_unlock {H : Hp} {d : Addr} {od : Obj} {o u : HO} (h : H d = some (.frz od o)) (n : ∀ xs, o ≠ .tup xs) : TK H (upd H d u) := by
  refine ⟨fun a xs e => ?_, fun a b xs e => ?_⟩
  · rw [upd_ne (fun z => by rw [z, h] at e; cases e)]; exact e
  · rw [upd_ne (fun z => by rw [z, h] at e; exact n xs (by cases e; rfl))]; exact e
/-- the pair p holds the key and the value kv -/
def KvAt (T : TKd K κ) (H : Hp) (p : Addr) (kv : κ × V) : Prop := ∃ y, H p = some (.tup [y, kv.2]) ∧ T.at' H y kv.1
theorem KvAt.tk {T : TKd K κ} {H H' : Hp} {p : Addr} {kv : κ × V} (h : KvAt T H p kv) (s : TK H H') : KvAt T H' p kv := by
  obtain ⟨y, a, b⟩ := h
  exact ⟨y, s.t _ _ a, T.tk s b⟩
theorem keepL_te (T : TKd K κ) {σ : L2.St} {H : Hp} {Q : VK} {jt jx : Nat} {d : Addr} {kvs : List (κ × V)} {tt : TT} (f : κ → Bool) (hjx : jx < σ.length) (htx : jt ≠ jx) (ht : σ[jt]? = some (some (.ref d)))
    (hd : H d = some (T.ho kvs)) (nd : (kvs.map (·.1)).Nodup) (hl : kvs.length ≤ 1000)
    (he : ∀ x k H' (Q' : Bool → Hp → Prop), k ∈ kvs.map (·.1) → T.at' H' x k → TK H H' → Q' (f k) H' → tt ((σ.set jx none).set jx (some x)) H' Q')
    (q : ∀ D ps H', Same H H' → H' D = some (.lst (ps.map V.ref)) → Paired (KvAt T H') ps (kvs.filter fun p => f p.1) → Q (.ref D) H') :
    tLockE (tLc (iKeys (tVar jt)) (gName jx) tt (tTup (tCons (tVar jx) (tCons (tDGet (tVar jt) (tVar jx)) tNil))) [jx]) σ H Q := by
  refine ⟨d, T.ho kvs, hd, T.mt _, fun od => ?_⟩
  have tk1 : TK H (upd H d (.frz od (T.ho kvs))) := tk_upd hd (T.nt kvs).1 (T.nt kvs).2
  have hd1 : (upd H d (.frz od (T.ho kvs))) d = some (.frz od (T.ho kvs)) := upd_same
  have lk := fun H' (s : Same (upd H d (.frz od (T.ho kvs))) H') => lock_same hd rfl s
  generalize upd H d (.frz od (T.ho kvs)) = H1 at tk1 hd1 lk
  refine ⟨_, ht, d, od, rfl, T.walk (R := fun J G => ∀ D, G D = none → ∃ W : Nat → Nat → Hp → Prop, (∃ m, W 0 m (upd G D (.lst []))) ∧ ∀ i m H, W i m H →
      (J.stop i H ∧ H d = some (.frz od (T.ho kvs)) ∧ Q (.ref D) (upd H d (T.ho kvs))) ∨ (J.go i H ∧ ∃ Nx : Hp → Prop, (∀ H', Nx H' → ∃ m', m' < m ∧ W (i + 1) m' H') ∧ ∀ x H', J.yld i H x H' → gName jx x (wipe σ [jx]) H' fun σ2 H2 => wipe σ2 [jx] = wipe σ [jx] ∧ tt σ2 H2 fun b H3 =>
        if b = true then (tTup (tCons (tVar jx) (tCons (tDGet (tVar jt) (tVar jx)) tNil))) σ2 H3 fun y H4 => ∃ acc, H4 D = some (.lst acc) ∧ acc.length < sizeLine ∧ Nx (upd H4 D (.lst (acc ++ [y]))) else Nx H3)) hd1 fun J w D hD => ?_⟩
  refine lc_it w (fun i H' => Same H1 H' ∧ ∃ ps, H' D = some (.lst (ps.map V.ref)) ∧ Paired (KvAt T H') ps ((kvs.take i).filter fun p => f p.1)) ⟨same_new hD, [], upd_same, .nil⟩ (fun i H' _ p => p.1 _ _ hd1) ?_ ?_
  · rintro i x H' H'' hi ⟨sm, ps, hDi, pr⟩ ⟨rfl, k, v, hki, hat⟩
    have g1 : ((wipe σ [jx]).set jx (some x))[jx]? = some (some x) := by
      rw [List.getElem?_set_self (by rw [wipe_length]; exact hjx)]
    have gt : ((wipe σ [jx]).set jx (some x))[jt]? = some (some (.ref d)) := by
      rw [List.getElem?_set_ne (Ne.symm htx)]
      show (σ.set jx none)[jt]? = _
      rw [List.getElem?_set_ne (Ne.symm htx)]; exact ht
    refine ⟨?_, ?_⟩
    · show ((σ.set jx none).set jx (some x)).set jx none = σ.set jx none
      rw [List.set_set, List.set_set]
    · refine he x k H'' _ (List.mem_map.mpr ⟨_, List.mem_of_getElem? hki, rfl⟩) hat (tk1.trans (TK.of sm)) ?_
      have tks : (kvs.take (i + 1)).filter (fun p => f p.1) = (kvs.take i).filter (fun p => f p.1) ++ (if f k = true then [(k, v)] else []) := by
        rw [List.take_add_one, hki, List.filter_append]
        by_cases c : f k = true <;> simp [c]
      have lt : (kvs.take i).length ≤ 1000 := by rw [List.length_take]; omega
      by_cases c : f k = true
      · refine chooseT' c ?_
        refine ⟨_, g1, _, gt, _, g1, d, v, rfl, ?_, by show 2 ≤ sizeLine; decide, fun p hp => ?_⟩
        · have := T.get (.inr ⟨od, sm _ _ hd1⟩) hat
          rw [valV_get nd hki] at this; exact this
        · have s2 := same_new (o := .tup [x, v]) hp
          have hp2 : (upd H'' p (.tup [x, v])) p = some (.tup [x, v]) := upd_same
          generalize upd H'' p (.tup [x, v]) = H3 at s2 hp2
          have hD3 := s2 _ _ hDi
          have pl := Paired.length pr
          have fl : ((kvs.take i).filter fun p => f p.1).length ≤ (kvs.take i).length := List.length_filter_le _ _
          refine ⟨ps.map V.ref, hD3, small1000 (by rw [List.length_map]; omega), fun b o e => ?_, ps ++ [p], by rw [List.map_append]; exact upd_same, ?_⟩
          · have : b ≠ D := fun z => by rw [z, hD] at e; cases e
            rw [upd_ne this]; exact s2 _ _ (sm _ _ e)
          · have t3 : TK H3 (upd H3 D (.lst (ps.map V.ref ++ [V.ref p]))) := tk_upd hD3 (fun _ z => nomatch z) (fun _ _ z => nomatch z)
            rw [tks, if_pos c]
            refine pr_snoc ⟨x, t3.t _ _ hp2, T.tk ((TK.of s2).trans t3) hat⟩ (Paired.imp2 (fun _ _ z => z.tk ((TK.of s2).trans t3)) pr)
      · refine chooseF' (by simpa using c) ⟨sm, ps, hDi, ?_⟩
        rw [tks, if_neg c, List.append_nil]; exact pr
  · rintro H' ⟨sm, ps, hDn, pr⟩
    have hdn := sm _ _ hd1
    have nDd : D ≠ d := fun z => by rw [z, hd1] at hD; cases hD
    refine ⟨hdn, q D ps _ (lk _ sm) (by rw [upd_ne nDd]; exact hDn) ?_⟩
    rw [List.take_length] at pr
    exact Paired.imp2 (fun _ _ z => z.tk (tk_unlock hdn (T.nt kvs).1)) pr
end
end Sg

set_option Elab.async false
set_option linter.all false
set_option maxRecDepth 100000
set_option maxHeartbeats 4000000
namespace Sg
open PySem PySem.Spec PyProof.Rows L2
/-! ### the law's tables -/
structure BK (mg : Str → Option Value) : Prop where
  len : mg "len" = none
  int : mg "int" = none
  range : mg "range" = none
  min : mg "min" = none
  sorted : mg "sorted" = none
  tuple : mg "tuple" = none
  dict : mg "dict" = none
  repr : mg "repr" = none
  isi : mg "isinstance" = none
theorem u2_of {k : Nat} {A : Around} (hr : Room k A) : A.units + 2 < cLine := by have := hr.un; omega
def WoIn {K : PySem.W.Frag} {κ : Type} [DecidableEq κ] (T : TKd K κ) (vs : List V) (H : Hp) (Q : VK) : Prop := ∃ (d : Addr) (y : V) (l : List (κ × V)) (k : κ), vs = [.ref d, y] ∧ H d = some (T.ho l) ∧ T.at' H y k ∧ T.ok k ∧ (∀ p ∈ l, T.ok p.1) ∧ (l.map (·.1)).Nodup ∧ l.length ≤ 1000 ∧
  ∀ D H', Same H H' → H D = none → H' D = some (T.ho (dropK l k)) → Q (.ref D) H'
def spLWithout (K : PySem.W.Frag) : Sp := fun vs H Q _ => WoIn (kdK K) vs H Q ∨ WoIn (kdT K) vs H Q
theorem dropK_filter {κ : Type} [DecidableEq κ] {l : List (κ × V)} {k : κ} : (l.filter fun p => !decide (p.1 = k)) = dropK l k := by
  unfold dropK
  congr 1
  funext p
  simp
theorem dropK_nodup {κ : Type} [DecidableEq κ] {l : List (κ × V)} {k : κ} (nd : (l.map (·.1)).Nodup) : ((dropK l k).map (·.1)).Nodup := List.Nodup.sublist (List.Sublist.map _ List.filter_sublist) nd
section
variable {P : Program} {wd : World} {K : PySem.W.Frag} {mg : Str → Option Value} {base : Heap} {f fU : Addr} {fd fdU : FuncData}
theorem scLWithout : FnScope ["table", "key", "other"] ["table", "key"] (defScope sLWithout) := ⟨rfl, rfl, rfl, by decide +kernel, rfl, by decide +kernel, by decide +kernel⟩
theorem ok_lwithout (F : Fun K "_law_without" "_law_without" sLWithout f fd) (B : BK mg) : FnOk P wd K mg base CX0 1 f fd ["table","key"] (spLWithout K) := by
  refine F.ok scLWithout (fun vs H Q E h => ?_) (fun cdv A outer s H vs Q E hr h => ?_)
  · rcases h with ⟨d, y, l, k, rfl, _⟩ | ⟨d, y, l, k, rfl, _⟩ <;> rfl
  · refine ⟨_, (pss_one (ps_ret (pe_callTy (call_dictL rfl (u2_of hr)) (by rfl) B.dict (by decide +kernel) (pa_cons (pe_lock (pe_lc (own := [("other", 2)]) (g := gName 2) (tt := tTest (tOp (rNeD K) (tVar 2) (tVar 1))) (te := tTup (tCons (tVar 2) (tCons (tDGet (tVar 0) (tVar 2)) tNil))) (by rfl) scLWithout.nd (pi_keys (pv 0)) (blkOk_by (own := [("other", 2)]) (N := ["table", "key", "other"]) (sc := defScope sLWithout) (by decide +kernel)) (fun _ _ _ _ _ => pg_name (i := 2) scLWithout.nd rfl (Or.inl rfl)) (fun _ _ _ _ _ => pts_one (by exact (pt_cmpR (op_neD (u64_of hr)) (pv 2) (pv 1) (by rfl)))) (fun _ _ _ _ _ => by exact (pe_tup (pa_cons (pv 2) (pa_cons (pe_dget (hu_of hr) (pv 0) (pv 2) (fun _ _ => rfl)) pa_nil)))))) pa_nil)))), ?_⟩
    rcases h with h | h
    · obtain ⟨d, y, l, k, rfl, hd, hk, ok0, ok, nd, hl, q⟩ := h
      refine keepL_te (kdK K) (fun x => !decide (x = k)) (show 2 < 3 by decide) (by decide) rfl hd nd hl (fun x j H' Q' hj hat t z => ?_) fun D ps H' s1 hD pr => ?_
      · have hat0 : (kdK K).at' H' y k := (kdK K).tk t hk
        obtain ⟨p, hp, rfl⟩ := List.mem_map.mp hj
        refine ⟨_, rfl, _, rfl, _, _, (kdK K).dp hat, (kdK K).dp hat0, (kdK K).sh (ok _ hp), (kdK K).sh ok0, _, rfl, ?_⟩
        rw [(kdK K).eqv]; exact z
      · rw [dropK_filter] at pr
        have fin : ∀ p, H' p = none → Q (.ref p) (upd H' p ((kdK K).ho (dropK l k))) := fun p hp => q p _ (s1.trans (same_new hp)) (ltH s1 hp) upd_same
        exact ⟨D, ps, rfl, SqL.of hD, .inl ⟨_, Paired.imp2 (fun p kv z => (by obtain ⟨y', h1, h2⟩ := z; cases h2; exact SqT.of h1)) pr, dropK_nodup nd, fin⟩⟩
    · obtain ⟨d, y, l, k, rfl, hd, hk, ok0, ok, nd, hl, q⟩ := h
      refine keepL_te (kdT K) (fun x => !decide (x = k)) (show 2 < 3 by decide) (by decide) rfl hd nd hl (fun x j H' Q' hj hat t z => ?_) fun D ps H' s1 hD pr => ?_
      · have hat0 : (kdT K).at' H' y k := (kdT K).tk t hk
        obtain ⟨p, hp, rfl⟩ := List.mem_map.mp hj
        refine ⟨_, rfl, _, rfl, _, _, (kdT K).dp hat, (kdT K).dp hat0, (kdT K).sh (ok _ hp), (kdT K).sh ok0, _, rfl, ?_⟩
        rw [(kdT K).eqv]; exact z
      · rw [dropK_filter] at pr
        have fin : ∀ p, H' p = none → Q (.ref p) (upd H' p ((kdT K).ho (dropK l k))) := fun p hp => q p _ (s1.trans (same_new hp)) (ltH s1 hp) upd_same
        exact ⟨D, ps, rfl, SqL.of hD, .inr ⟨_, Paired.imp2 (fun p kv z => (by obtain ⟨y', h1, b, e, h2⟩ := z; subst e; exact ⟨b, SqT.of h1, h2⟩)) pr, dropK_nodup nd, fin⟩⟩
theorem scLWith : FnScope ["table", "key", "value", "changed"] ["table", "key", "value"] (defScope sLWith) := ⟨rfl, rfl, rfl, by decide +kernel, rfl, by decide +kernel, by decide +kernel⟩
theorem ok_lwith (F : Fun K "_law_with" "_law_with" sLWith f fd) (GU : Def P wd K mg base CX0 "_law_without" 1 ["table","key"] (spLWithout K) fU fdU) : FnOk P wd K mg base CX0 2 f fd ["table","key","value"] (spChanged K) := by
  refine F.ok scLWith (fun vs H Q E h => ?_) (fun cdv A outer s H vs Q E hr h => ?_)
  · rcases h with ⟨d, y, z, l, k, rfl, _⟩ | ⟨d, y, z, l, k, rfl, _⟩ <;> rfl
  · have hr1 : Room 1 _ := hr.mono (by decide)
    refine ⟨_, (pss_cons (ps_set (i := 3) scLWith.nd rfl (Or.inl rfl) (pe_call GU.ok hr1 (by rfl) GU.mg GU.kp GU.bd .nil pass0 (pa_cons (pv 0) (pa_cons (pv 1) pa_nil))))
      (pss_cons (ps_if (pt_cmpR op_notN (pv 2) pe_non (nomark _))
      (pss_one (ps_dput (hu_of hr) (pv 3) (pv 1) (pv 2) rfl)) pss_nil)
      (pss_one (ps_ret (pv 3))))), ?_⟩
    rcases h with h | h
    · obtain ⟨d, y, z, l, k, rfl, hd, hk, ok0, ok, nd, hl, q⟩ := h
      refine ⟨_, rfl, _, rfl, .inl ⟨d, y, l, k, rfl, hd, hk, ok0, ok, nd, hl, fun D H1 s1 hD hD1 => ?_⟩⟩
      have hk1 : (kdK K).at' H1 y k := (kdK K).tk (TK.of s1) hk
      refine ⟨_, rfl, rfl, _, rfl, ?_⟩
      by_cases c : z = .non
      · refine chooseF (by simp [c]) ?_
        refine ⟨_, rfl, q D H1 s1 hD ?_⟩
        rw [hD1, chg, if_pos c]
      · refine chooseT (by simp [c]) ?_
        refine ⟨_, rfl, _, rfl, _, rfl, D, _, rfl, (kdK K).put hD1 hk1 (small1000 (Nat.le_trans dropK_len hl)), _, rfl, q D _ (fun b o e => ?_) hD ?_⟩
        · have : b ≠ D := fun w => by rw [w, hD] at e; cases e
          rw [upd_ne this]; exact s1 _ _ e
        · rw [putK_new z drop_valV, chg, if_neg c]; exact upd_same
    · obtain ⟨d, y, z, l, k, rfl, hd, hk, ok0, ok, nd, hl, q⟩ := h
      refine ⟨_, rfl, _, rfl, .inr ⟨d, y, l, k, rfl, hd, hk, ok0, ok, nd, hl, fun D H1 s1 hD hD1 => ?_⟩⟩
      have hk1 : (kdT K).at' H1 y k := (kdT K).tk (TK.of s1) hk
      refine ⟨_, rfl, rfl, _, rfl, ?_⟩
      by_cases c : z = .non
      · refine chooseF (by simp [c]) ?_
        refine ⟨_, rfl, q D H1 s1 hD ?_⟩
        rw [hD1, chg, if_pos c]
      · refine chooseT (by simp [c]) ?_
        refine ⟨_, rfl, _, rfl, _, rfl, D, _, rfl, (kdT K).put hD1 hk1 (small1000 (Nat.le_trans dropK_len hl)), _, rfl, q D _ (fun b o e => ?_) hD ?_⟩
        · have : b ≠ D := fun w => by rw [w, hD] at e; cases e
          rw [upd_ne this]; exact s1 _ _ e
        · rw [putK_new z drop_valV, chg, if_neg c]; exact upd_same
theorem scLStart : FnScope [] [] (defScope sLStart) := ⟨rfl, rfl, rfl, by decide +kernel, rfl, by decide +kernel, by decide +kernel⟩
theorem ok_lstart (F : Fun K "_law_start" "_law_start" sLStart f fd) : FnOk P wd K mg base CX0 1 f fd [] (spNewState K) := by
  refine F.ok scLStart (fun vs H Q E h => ?_) (fun cdv A outer s H vs Q E hr h => ?_)
  · obtain ⟨rfl, _⟩ := h
    rfl
  · obtain ⟨rfl, q⟩ := h
    refine ⟨_, (pss_one (ps_ret (pe_disp (pps_cons pe_str pe_int (pps_cons pe_str pe_dnewK (pps_cons pe_str pe_dnewT (pps_cons pe_str pe_dnewK pps_nil)))) rfl rfl (by decide) (by decide)))), ?_⟩
    exact new_te q
end
end Sg

set_option Elab.async false
set_option linter.all false
set_option maxRecDepth 100000
set_option maxHeartbeats 4000000
namespace Sg
open PySem PySem.Spec PyProof.Rows L2
/-! ### the law's answer, and its fence -/
def oV : Option Int → V
  | none => .non
  | some i => .int i
def keyR (rs : List (Int × Int)) (h : Int) : Option Int → List (Int × Int)
  | none => outR rs h
  | some k => insR rs h k
def rowsR (rs : List (Int × Int)) (h : Int) : Option Int → List (Int × Int)
  | none => outR rs h
  | some k => outR rs h ++ [(h, k)]
def SrtR (rs : List (Int × Int)) : Prop := rs.Pairwise fun a b => a.1 < b.1
theorem srt_nodup {rs : List (Int × Int)} (h : SrtR rs) : (rs.map (·.1)).Nodup := List.pairwise_map.mpr (h.imp fun e => by omega)
theorem out_srt {rs : List (Int × Int)} {h : Int} (s : SrtR rs) : SrtR (outR rs h) := List.Pairwise.sublist List.filter_sublist s
theorem ins_srt {rs : List (Int × Int)} {h k : Int} (s : SrtR rs) : SrtR (insR rs h k) := by
  have p := List.pairwise_mergeSort (le := fun a b : Int × Int => decide (a.1 ≤ b.1)) (by intro a b c h1 h2; simp at *; omega) (by intro a b; simp; omega) (outR rs h ++ [(h, k)])
  have nd := List.pairwise_map.mp (ins_nodup (h := h) (k := k) (srt_nodup s))
  exact (p.and nd).imp fun ⟨a, b⟩ => by have := of_decide_eq_true a; omega
theorem key_eq {rs rs' : List (Int × Int)} {h : Int} {k : Option Int} (s : SrtR rs) (p : rs'.Perm (rowsR rs h k)) (so : (rs'.map (·.1)).Pairwise (· ≤ ·)) : rs' = keyR rs h k := by
  cases k with
  | some k => exact ins_eq (srt_nodup s) p so
  | none =>
    have so' := out_srt (h := h) s
    refine List.Perm.eq_of_pairwise (le := fun a b : Int × Int => a.1 ≤ b.1) (fun x y hx hy h1 h2 => fst_inj (srt_nodup so') (p.mem_iff.mp hx) hy (by omega)) (List.pairwise_map.mp so) (so'.imp fun e => by omega) p
def spLKey (K : PySem.W.Frag) : Sp := fun vs H Q _ => ∃ (fv : V) (h : Int) (k : Option Int) (rs : List (Int × Int)) (hd : Option (Int × Str)), vs = [fv, .int h, oV k] ∧ FenceAt K H fv rs hd ∧ SrtR rs ∧ rs.length ≤ 900 ∧ ∀ a H', Same H H' → FenceAt K H' (.ref a) (keyR rs h k) hd → Q (.ref a) H'
def spLAns (K : PySem.W.Frag) : Sp := fun vs H Q _ => ∃ (o : Int) (k : Str), vs = [.int o, .str k] ∧ ∀ v H', Same H H' → Dp K H' v (answD k o) → Q v H'
section
variable {P : Program} {wd : World} {K : PySem.W.Frag} {mg : Str → Option Value} {base : Heap} {f : Addr} {fd : FuncData}
/-- tuple(sorted(rows)), .. made a fence -/
theorem fence_tail {H : Hp} {l r a : Addr} {xs : List V} {hv : V} {hd : Option (Int × Str)} {σ : L2.St} {Q : VK} {il jf : Nat} (h3 : σ[il]? = some (some (.ref l))) (h0 : σ[jf]? = some (some (.ref a))) (hl : H l = some (.lst xs)) (px : ∀ x ∈ xs, PairV H x) (hx : xs.length ≤ 1000) (hf : SqT K H a [.ref r, hv]) (h4 : HoldV K H hv hd)
    (q : ∀ t rs' H', Same H H' → rs'.Perm (xs.map (kOf H)) → (rs'.map (·.1)).Pairwise (· ≤ ·) → FenceAt K H' (.ref t) rs' hd → Q (.ref t) H') :
    tTup (tCons (tCB (rTupP K) (tCons (tCB (rSortedPO K) (tCons (tVar il) tNil)) tNil)) (tCons (tOp (rIxT K) (tVar jf) (tC (.int 1))) tNil)) σ H Q := by
  refine ⟨_, h3, l, _, kOf H, rfl, SqL.of hl, px, fun ys l2 so st hl2 => ?_⟩
  have s4 := same_new (o := .lst ys) hl2
  refine ⟨l2, _, rfl, SqL.of upd_same, fun u o hu od => ?_⟩
  have s5 := same_new (o := .frz o (.tup ys)) hu
  have s45 := s4.trans s5
  refine ⟨_, h0, a, _, _, _, rfl, rfl, SqT_same s45 hf, atI_nat (j := 1) rfl, by show 2 ≤ sizeLine; decide, fun t3 ht3 => ?_⟩
  have s6 := same_new (o := .tup [V.ref u, hv]) ht3
  have s46 := s45.trans s6
  have my : ∀ y ∈ ys, y ∈ xs := fun y hy => st.perm.mem_iff.mp hy
  have p6 := fun y (hy : y ∈ ys) => (px y (my y hy)).tk (TK.of s46)
  have rg := regs_of (K := K) (.inl (.inr ⟨o, s6 _ _ upd_same⟩)) (fun y hy => (p6 y hy).1)
  rw [List.map_congr_left (fun y hy => (p6 y hy).2)] at rg
  refine q t3 (ys.map (kOf H)) _ s46 (st.perm.map _) ?_ ⟨t3, u, hv, rfl, SqT.of upd_same, rg, h4.tk (TK.of s46)⟩
  rw [List.pairwise_map, List.pairwise_map]
  refine List.Pairwise.imp_of_mem (fun {x y} hx hy hxy => ?_) so
  have a1 := SrtO.lexB_no.mp hxy
  show (kOf _ x).1 ≤ (kOf _ y).1
  omega
theorem scLAnswer : FnScope ["order", "kind"] ["order", "kind"] (defScope sLAnswer) := ⟨rfl, rfl, rfl, by decide +kernel, rfl, by decide +kernel, by decide +kernel⟩
theorem ok_lanswer (F : Fun K "_law_answer" "_law_answer" sLAnswer f fd) : FnOk P wd K mg base CX0 1 f fd ["order","kind"] (spLAns K) := by
  refine F.ok scLAnswer (fun vs H Q E h => ?_) (fun cdv A outer s H vs Q E hr h => ?_)
  · obtain ⟨o, k, rfl, _⟩ := h
    rfl
  · obtain ⟨o, k, rfl, q⟩ := h
    refine ⟨_, (pss_cons (ps_if (pt_cmpR op_eq (pv 1) pe_str (nomark _))
      (pss_one (ps_ret pe_non)) pss_nil)
      (pss_cons (ps_if (PW.pt (pw_or (pt_cmpR op_eq (pv 1) pe_str (nomark _)) (pw_or1 (pt_cmpR op_eq (pv 1) pe_str (nomark _)))))
      (pss_one (ps_ret (pe_tup (pa_cons pe_str (pa_cons (pv 0) pa_nil))))) pss_nil)
      (pss_one (ps_ret (pe_tup (pa_cons pe_str (pa_cons pe_non pa_nil))))))), ?_⟩
    refine ⟨_, rfl, rfl, _, rfl, ?_⟩
    by_cases c1 : k = "mark"
    · refine chooseT (by simp [c1]) ?_
      refine q .non H (Same.refl _) ?_
      rw [answD, if_pos c1]; exact .non
    · refine chooseF (by simp [c1]) ?_
      have okT : ∀ x y, Dp K H x y → (y = .int o ∨ y = .none) → answD k o = .tuple [.str "ok", y] → tRet (tTup (tCons (tC (.str "ok")) (tCons (fun σ H Q => Q x H) tNil))) ⟨fun _ _ => False, fun v H' => Q v H', fun _ _ => False, fun _ _ => False⟩ [] H := fun x y hx _ e => by
        refine ⟨by show 2 ≤ sizeLine; decide, fun t ht => ?_⟩
        have s1 := same_new (o := .tup [V.str "ok", x]) ht
        refine q _ _ s1 ?_
        rw [e]
        exact .tup (SqT.of upd_same) (.cons (.str _) (.cons (dp_same s1 _ _ hx) .nil))
      by_cases c2 : k = "snap"
      · have e : answD k o = .tuple [.str "ok", .int o] := by rw [answD, if_neg c1, c2]; rfl
        refine ⟨_, rfl, rfl, _, rfl, ?_⟩
        refine chooseT (by simp [c2]) ?_
        exact ⟨_, rfl, okT (.int o) (.int o) (.int o) (.inl rfl) e⟩
      · refine ⟨_, rfl, rfl, _, rfl, ?_⟩
        refine chooseF (by simp [c2]) ?_
        refine ⟨_, rfl, rfl, _, rfl, ?_⟩
        by_cases c3 : k = "register"
        · have e : answD k o = .tuple [.str "ok", .int o] := by rw [answD, if_neg c1, c3]; rfl
          refine chooseT (by simp [c3]) ?_
          exact ⟨_, rfl, okT (.int o) (.int o) (.int o) (.inl rfl) e⟩
        · have e : answD k o = .tuple [.str "ok", .none] := by
            rw [answD, if_neg c1, if_neg]
            simp [strIn, Ne.symm c2, Ne.symm c3]
          refine chooseF (by simp [c3]) ?_
          exact okT .non .none .non (.inr rfl) e
theorem scLKey : FnScope ["fence", "host", "key", "rows", "row"] ["fence", "host", "key"] (defScope sLKey) := ⟨rfl, rfl, rfl, by decide +kernel, rfl, by decide +kernel, by decide +kernel⟩
theorem ok_lkey (F : Fun K "_law_key" "_law_key" sLKey f fd) (B : BK mg) : FnOk P wd K mg base CX0 1 f fd ["fence","host","key"] (spLKey K) := by
  refine F.ok scLKey (fun vs H Q E h => ?_) (fun cdv A outer s H vs Q E hr h => ?_)
  · obtain ⟨fv, h, k, rs, hd, rfl, _⟩ := h
    rfl
  · obtain ⟨fv, h, k, rs, hd, rfl, ⟨a, r, hv, rfl, h1, h2, h4⟩, so, hl, q⟩ := h
    refine ⟨_, (pss_cons (ps_setLc (i := 3) (own := [("row", 4)]) (g := gName 4) (tt := tTest (tOp rNe (tOp (rIxT K) (tVar 4) (tC (.int 0))) (tVar 1))) (te := tVar 4) (by rfl) scLKey.nd rfl rfl (sw_true rfl rfl rfl (by decide +kernel)) (pi_tup (pe_ix ix_tup (pv 0) pe_int (fun _ _ => rfl))) (blkOk_by (own := [("row", 4)]) (N := ["fence", "host", "key", "rows", "row"]) (sc := defScope sLKey) (by decide +kernel)) (fun _ _ _ _ _ => pg_name (i := 4) scLKey.nd rfl (Or.inl rfl)) (fun _ _ _ _ _ => pts_one (pt_cmpR op_ne (pe_ix ix_tup (pv 4) pe_int (fun _ _ => rfl)) (pv 1) (nomark _))) (fun _ _ _ _ _ => by exact (pv 4)))
      (pss_cons (ps_if (pt_cmpR op_notN (pv 2) pe_non (nomark _))
      (pss_one (ps_expr (pe_bm PySem.F.plainAttrs_list PySem.F.slot_list_append PySem.F.type_list_append mt_append (pv 3) (pa_cons (pe_tup (pa_cons (pv 1) (pa_cons (pv 2) pa_nil))) pa_nil)))) pss_nil)
      (pss_one (ps_ret (pe_tup (pa_cons (pe_callTy call_tupP (by rfl) B.tuple (by decide +kernel) (pa_cons (pe_callB cr_sortedPO (by rfl) B.sorted (by decide +kernel) (pa_cons (pv 3) pa_nil)) pa_nil)) (pa_cons (pe_ix ix_tup (pv 0) pe_int (fun _ _ => rfl)) pa_nil))))))), ?_⟩
    refine ⟨_, rfl, a, _, _, _, rfl, rfl, h1, atI_nat (j := 0) rfl, ?_⟩
    obtain ⟨xs, g1, g2, rfl⟩ := regs_xs h2
    rw [List.length_map] at hl
    refine ⟨r, rfl, ⟨_, g1⟩, fun D hD => ?_⟩
    refine lc_filtT (fun x => !decide ((kOf H x).1 = h)) hD g1 (fun _ => rfl) (Nat.le_of_lt (small1000 (by omega))) (fun x H' Q' hm sm k => ?_) (fun x H' Q' hm k => ⟨_, rfl, k⟩) fun H1 s1 hD1 => ?_
    · obtain ⟨t, rfl, ht⟩ := g2 x hm
      refine ⟨_, rfl, t, _, _, _, rfl, rfl, SqT.of (sm _ _ ht), atI_nat (j := 0) rfl, _, rfl, rfl, _, rfl, ?_⟩
      have e : decide (V.int (kOf H (.ref t)).1 = V.int h) = decide ((kOf H (.ref t)).1 = h) := by
        by_cases z : (kOf H (.ref t)).1 = h
        · rw [decide_eq_true z, decide_eq_true (show V.int _ = V.int h by rw [z])]
        · rw [decide_eq_false z, decide_eq_false (show ¬ V.int _ = V.int h from fun y => z (by injection y))]
      rw [e]
      exact k H' (Same.refl H')
    · have pv := fun x (hx : x ∈ xs.filter fun x => !decide ((kOf H x).1 = h)) => (g2 x ((List.mem_filter.mp hx).1)).tk (TK.of s1)
      have em : (xs.filter fun x => !decide ((kOf H x).1 = h)).map (kOf H1) = outR (xs.map (kOf H)) h := by
        rw [List.map_congr_left (fun x hx => (pv x hx).2)]
        unfold outR
        rw [List.filter_map]
        rfl
      have fl : (xs.filter fun x => !decide ((kOf H x).1 = h)).length ≤ xs.length := List.length_filter_le _ _
      refine ⟨_, rfl, rfl, _, rfl, ?_⟩
      cases k with
      | none =>
        refine chooseF rfl ?_
        refine fence_tail (il := 3) (jf := 0) rfl rfl hD1 (fun x hx => (pv x hx).1) (by omega) (SqT_same s1 h1) (h4.tk (TK.of s1)) fun t rs' H' s2 pm sr hf => ?_
        rw [em] at pm
        rw [key_eq (k := none) so pm sr] at hf
        exact q t H' (s1.trans s2) hf
      | some k =>
        refine chooseT rfl ?_
        refine ⟨_, rfl, .inl ⟨rfl, _, SqL.of hD1⟩, ?_⟩
        refine ⟨_, rfl, _, rfl, by show 2 ≤ sizeLine; decide, fun t ht => ?_⟩
        have s2 := same_new (o := .tup [V.int h, oV (some k)]) ht
        have ht2 : (upd H1 t (.tup [V.int h, oV (some k)])) t = some (.tup [V.int h, V.int k]) := upd_same
        generalize upd H1 t (.tup [V.int h, oV (some k)]) = H2 at s2 ht2
        have hD2 := s2 _ _ hD1
        have ln : ((xs.filter fun x => !decide ((kOf H x).1 = h)) ++ [V.ref t]).length ≤ 1000 := by rw [List.length_append, List.length_singleton]; omega
        refine ⟨D, _, _, rfl, rfl, hD2, small1000 (Nat.le_trans fl (by omega)), ?_⟩
        have t3 : TK H2 (upd H2 D (.lst ((xs.filter fun x => !decide ((kOf H x).1 = h)) ++ [V.ref t]))) := tk_upd hD2 (fun _ z => nomatch z) (fun _ _ z => nomatch z)
        have sH : Same H (upd H2 D (.lst ((xs.filter fun x => !decide ((kOf H x).1 = h)) ++ [V.ref t]))) := fun b o e => by
          have : b ≠ D := fun w => by rw [w, hD] at e; cases e
          rw [upd_ne this]; exact s2 _ _ (s1 _ _ e)
        have hD3 : (upd H2 D (.lst ((xs.filter fun x => !decide ((kOf H x).1 = h)) ++ [V.ref t]))) D = some (.lst ((xs.filter fun x => !decide ((kOf H x).1 = h)) ++ [V.ref t])) := upd_same
        have px : ∀ x ∈ (xs.filter fun x => !decide ((kOf H x).1 = h)) ++ [V.ref t], PairV (upd H2 D (.lst ((xs.filter fun x => !decide ((kOf H x).1 = h)) ++ [V.ref t]))) x := fun x hx => by
          rcases List.mem_append.mp hx with hx | hx
          · exact ((pv x hx).1.tk ((TK.of s2).trans t3)).1
          · rw [List.mem_singleton.mp hx]; exact pairV_at (t3.t _ _ ht2)
        refine fence_tail (il := 3) (jf := 0) rfl rfl hD3 px ln (SqT_same sH h1) (h4.tk (TK.of sH)) fun t5 rs' H' s3 pm sr hf => ?_
        have em2 : ((xs.filter fun x => !decide ((kOf H x).1 = h)) ++ [V.ref t]).map (kOf (upd H2 D (.lst ((xs.filter fun x => !decide ((kOf H x).1 = h)) ++ [V.ref t])))) = outR (xs.map (kOf H)) h ++ [(h, k)] := by
          rw [List.map_append, List.map_congr_left (fun x hx => ((pv x hx).1.tk ((TK.of s2).trans t3)).2), em, List.map_cons, kOf_at (t3.t _ _ ht2)]
          rfl
        rw [em2] at pm
        rw [key_eq (k := some k) so pm sr] at hf
        exact q t5 H' (sH.trans s3) hf
end
end Sg

set_option Elab.async false
set_option linter.all false
set_option maxRecDepth 100000
set_option maxHeartbeats 4000000
namespace Sg
open PySem PySem.Spec PyProof.Rows L2
/-! ### the law's spaces -/
def spcN : Bd → Option Int
  | .write n _ _ => some n | .trim n _ => some n | .register n => some n | .leave n _ => some n | .reserve n _ => some n | .release n => some n | .preempt n _ _ => some n
  | _ => none
def spcL (o h : Int) (s : Spc) : Bd → Spc
  | .write _ p v => { s with cs := putI s.cs p v }
  | .trim _ p => { s with cs := delI s.cs p }
  | .register _ => { s with rg := insR s.rg h o }
  | .leave _ held => { s with rg := outR s.rg h, hd := if held = true then none else s.hd }
  | .reserve _ w => { s with hd := some (h, w) }
  | .release _ => { s with hd := none }
  | .preempt _ v none => { s with rg := outR s.rg v }
  | .preempt _ v (some w) => { s with rg := outR s.rg v, hd := some (h, w) }
  | _ => s
def spLSpace (K : PySem.W.Frag) : Sp := fun vs H Q _ => ∃ (w fl : Addr) (st : Sta) (o h n : Int) (b : Bd) (ys : List V) (s : Spc), vs = [.ref w, .int o, .int h, .str (kindS b), .ref fl] ∧ StAt K H w st ∧ StG 900 st ∧ SrtR s.rg ∧ SqT K H fl ys ∧ DpAll K H ys (fldD b) ∧ spcN b = some n ∧ lookI st.sp n = some s ∧ bdOk b ∧
  ∀ a H', Same H H' → SpcAt K H' (.ref a) (spcL o h s b) → Q (.ref a) H'
section
variable {P : Program} {wd : World} {K : PySem.W.Frag} {mg : Str → Option Value} {base : Heap} {f fL fU fK : Addr} {fd fdL fdU fdK : FuncData}
theorem scLSpace : FnScope ["world", "order", "host", "kind", "fields", "size", "cells", "fence"] ["world", "order", "host", "kind", "fields"] (defScope sLSpace) := ⟨rfl, rfl, rfl, by decide +kernel, rfl, by decide +kernel, by decide +kernel⟩
theorem wo_tab {κ α β : Type} [DecidableEq κ] [DecidableEq α] (T : TKd K κ) {R : Hp → V → β → Prop} {emb : α → κ} (he : ∀ a b, emb a = emb b → a = b) (hok : ∀ a, T.ok (emb a)) {H : Hp} {d : Addr} {l : List (α × β)} {k : α} {y : V} {Q : VK}
    (h : TabAt T R emb H d l) (hl : l.length ≤ 1000) (hk : T.at' H y (emb k)) (q : ∀ D H', Same H H' → H D = none → TabAt T (fun _ => R H) emb H' D (delI l k) → Q (.ref D) H') : WoIn T [.ref d, y] H Q := by
  obtain ⟨kvs, hd, pr, nd⟩ := h
  refine ⟨d, y, kvs, emb k, rfl, hd, hk, hok k, fun p hp => ?_, pr_nodup he (R := R H) pr nd, by rw [Paired.length pr]; exact hl, fun D H' s hD hDn => q D H' s hD ⟨_, hDn, pr_drop he (R := R H) pr, del_nodup nd⟩⟩
  obtain ⟨j, hj⟩ := List.mem_iff_getElem?.mp hp
  obtain ⟨q, _, hq⟩ := paired_at pr hj
  rw [hq.1]; exact hok _
/-- (fence[0], x) -/
theorem fence_put {H : Hp} {fv : V} {rg : List (Int × Int)} {hd hd' : Option (Int × Str)} {σ : L2.St} {Q : VK} {tv : TE} (hσ : σ[7]? = some (some fv)) (hf : FenceAt K H fv rg hd) (hv : ∀ (H1 : Hp) (R : VK), Same H H1 → (∀ x H2, Same H1 H2 → HoldV K H2 x hd' → R x H2) → tv σ H1 R)
    (q : ∀ a H', Same H H' → FenceAt K H' (.ref a) rg hd' → Q (.ref a) H') : tTup (tCons (tOp (rIxT K) (tVar 7) (tC (.int 0))) (tCons tv tNil)) σ H Q := by
  obtain ⟨fa, fr, fhv, rfl, f1, f2, f4⟩ := hf
  refine ⟨_, hσ, fa, _, _, _, rfl, rfl, f1, atI_nat (j := 0) rfl, ?_⟩
  refine hv H _ (Same.refl H) fun x H2 s2 hx => ⟨by show 2 ≤ sizeLine; decide, fun t ht => ?_⟩
  have s3 := same_new (o := .tup [V.ref fr, x]) ht
  exact q t _ (s2.trans s3) ⟨t, fr, x, rfl, SqT.of upd_same, f2.tk (TK.of (s2.trans s3)), hx.tk (TK.of s3)⟩
theorem ok_lspace (F : Fun K "_law_space" "_law_space" sLSpace f fd) (GL : Def P wd K mg base CX0 "_law_with" 2 ["table","key","value"] (spChanged K) fL fdL) (GU : Def P wd K mg base CX0 "_law_without" 1 ["table","key"] (spLWithout K) fU fdU) (GK : Def P wd K mg base CX0 "_law_key" 1 ["fence","host","key"] (spLKey K) fK fdK) :
    FnOk P wd K mg base CX0 3 f fd ["world","order","host","kind","fields"] (spLSpace K) := by
  refine F.ok scLSpace (fun vs H Q E h => ?_) (fun cdv A outer s H vs Q E hr h => ?_)
  · obtain ⟨w, fl, st, o, h, n, b, ys, s, rfl, _⟩ := h
    rfl
  · obtain ⟨w, fl, st, o, h, n, b, ys, s, rfl, SA, G, so, hfl, hfd, hn, hl, bok, q⟩ := h
    have hr2 : Room 2 _ := hr.mono (by decide)
    have hr1 : Room 1 _ := hr.mono (by decide)
    refine ⟨_, (pss_cons (ps_asg (pe_dget (hu_of hr) (pe_dget (hu_of hr) (pv 0) pe_str (fun _ _ => rfl)) (pe_ix ix_tup (pv 4) pe_int (fun _ _ => rfl)) (fun _ _ => rfl)) (pg_tup (by rfl) (pgs_cons (pg_name (i := 5) scLSpace.nd rfl (Or.inl rfl)) (pgs_cons (pg_name (i := 6) scLSpace.nd rfl (Or.inl rfl)) (pgs_cons (pg_name (i := 7) scLSpace.nd rfl (Or.inl rfl)) L2.pgs_nil)))))
      (Evl.pss_cut (ps_if (pt_cmpR op_eq (pv 3) pe_str (nomark _))
      (pss_one (ps_set (i := 6) scLSpace.nd rfl (Or.inl rfl) (pe_call GL.ok hr2 (by rfl) GL.mg GL.kp GL.bd .nil pass0 (pa_cons (pv 6) (pa_cons (pe_ix ix_tup (pv 4) pe_int (fun _ _ => rfl)) (pa_cons (pe_ix ix_tup (pv 4) pe_int (fun _ _ => rfl)) pa_nil)))))) (pss_one (ps_if (pt_cmpR op_eq (pv 3) pe_str (nomark _))
      (pss_one (ps_set (i := 6) scLSpace.nd rfl (Or.inl rfl) (pe_call GU.ok hr1 (by rfl) GU.mg GU.kp GU.bd .nil pass0 (pa_cons (pv 6) (pa_cons (pe_ix ix_tup (pv 4) pe_int (fun _ _ => rfl)) pa_nil))))) (pss_one (ps_if (pt_cmpR op_eq (pv 3) pe_str (nomark _))
      (pss_one (ps_set (i := 7) scLSpace.nd rfl (Or.inl rfl) (pe_call GK.ok hr1 (by rfl) GK.mg GK.kp GK.bd .nil pass0 (pa_cons (pv 7) (pa_cons (pv 2) (pa_cons (pv 1) pa_nil)))))) (pss_one (ps_if (pt_cmpR op_eq (pv 3) pe_str (nomark _))
      (pss_cons (ps_set (i := 7) scLSpace.nd rfl (Or.inl rfl) (pe_call GK.ok hr1 (by rfl) GK.mg GK.kp GK.bd .nil pass0 (pa_cons (pv 7) (pa_cons (pv 2) (pa_cons pe_non pa_nil)))))
      (pss_one (ps_if (pt_val (pe_ix ix_tup (pv 4) pe_int (fun _ _ => rfl)))
      (pss_one (ps_set (i := 7) scLSpace.nd rfl (Or.inl rfl) (pe_tup (pa_cons (pe_ix ix_tup (pv 7) pe_int (fun _ _ => rfl)) (pa_cons pe_non pa_nil))))) pss_nil))) (pss_one (ps_if (pt_cmpR op_eq (pv 3) pe_str (nomark _))
      (pss_one (ps_set (i := 7) scLSpace.nd rfl (Or.inl rfl) (pe_tup (pa_cons (pe_ix ix_tup (pv 7) pe_int (fun _ _ => rfl)) (pa_cons (pe_tup (pa_cons (pv 2) (pa_cons (pe_ix ix_tup (pv 4) pe_int (fun _ _ => rfl)) pa_nil))) pa_nil))))) (pss_one (ps_if (pt_cmpR op_eq (pv 3) pe_str (nomark _))
      (pss_one (ps_set (i := 7) scLSpace.nd rfl (Or.inl rfl) (pe_tup (pa_cons (pe_ix ix_tup (pv 7) pe_int (fun _ _ => rfl)) (pa_cons pe_non pa_nil))))) (pss_one (ps_if (pt_cmpR op_eq (pv 3) pe_str (nomark _))
      (pss_cons (ps_set (i := 7) scLSpace.nd rfl (Or.inl rfl) (pe_call GK.ok hr1 (by rfl) GK.mg GK.kp GK.bd .nil pass0 (pa_cons (pv 7) (pa_cons (pe_ix ix_tup (pv 4) pe_int (fun _ _ => rfl)) (pa_cons pe_non pa_nil)))))
      (pss_one (ps_if (pt_cmpR op_notN (pe_ix ix_tup (pv 4) pe_int (fun _ _ => rfl)) pe_non (nomark _))
      (pss_one (ps_set (i := 7) scLSpace.nd rfl (Or.inl rfl) (pe_tup (pa_cons (pe_ix ix_tup (pv 7) pe_int (fun _ _ => rfl)) (pa_cons (pe_tup (pa_cons (pv 2) (pa_cons (pe_ix ix_tup (pv 4) pe_int (fun _ _ => rfl)) pa_nil))) pa_nil))))) pss_nil))) pss_nil)))))))))))))
      (pss_one (ps_ret (pe_tup (pa_cons (pv 5) (pa_cons (pv 6) (pa_cons (pv 7) pa_nil)))))))), ?_⟩
    obtain ⟨b1, b2, b3, ha, t1, t2, t3⟩ := id SA
    obtain ⟨kvs, hb1, pr, nd⟩ := id t1
    have mem := look_mem hl
    have csl : s.cs.length ≤ 900 := G.sm.cs _ mem
    have rgl : s.rg.length ≤ 900 := (G.rg _ mem).2
    rcases pr_look (R := SpcAt K H) eI_inj (k := n) pr with ⟨e0, _⟩ | ⟨s', z, e0, hz, az⟩
    · rw [hl] at e0; cases e0
    rw [hl] at e0; cases e0
    obtain ⟨p, c, fv, rfl, hp, hc, hf⟩ := az
    obtain ⟨y0, yr, rfl, d0⟩ : ∃ y0 yr, ys = y0 :: yr ∧ y0 = .int n := by
      cases b <;> first
        | (cases hn; done)
        | (cases hn; obtain ⟨x, r, rfl, e, _⟩ := dpAll_cons hfd; exact ⟨x, r, rfl, dp_int e⟩)
    subst d0
    refine ⟨_, rfl, w, .ref b1, rfl, .inl ⟨_, .inr "spaces", .inl ha, rfl, rfl⟩, _, rfl, fl, _, _, _, rfl, rfl, hfl, atI_nat (j := 0) rfl, b1, .ref p, rfl, .inl ⟨_, .inl n, .inl hb1, rfl, hz.symm⟩, p, _, rfl, hp, rfl, _, _, rfl, _, _, rfl, _, _, rfl, rfl, ?_⟩
    refine ⟨fun σ' H' => ∃ c' fv', σ' = [some (.ref w), some (.int o), some (.int h), some (.str (kindS b)), some (.ref fl), some (.int s.z), some (.ref c'), some fv'] ∧ Same H H' ∧ CellAt K H' c' (spcL o h s b).cs ∧ FenceAt K H' fv' (spcL o h s b).rg (spcL o h s b).hd, ?_, ?_⟩
    · cases b with
      | mark d => cases hn
      | make _ _ => cases hn
      | remove _ => cases hn
      | snap _ => cases hn
      | drop _ _ => cases hn
      | write n' pl x =>
        obtain ⟨x0, r0, e, _, c0⟩ := dpAll_cons hfd
        cases e
        obtain ⟨x1, r1, rfl, e1, c1⟩ := dpAll_cons c0
        obtain rfl := dp_int e1
        obtain ⟨x2, r2, rfl, e2, c2⟩ := dpAll_cons c1
        obtain rfl := dp_int e2
        obtain rfl := dpAll_nil c2
        refine ⟨_, rfl, rfl, _, rfl, chooseT str_eqT ?_⟩
        refine ⟨_, rfl, _, rfl, fl, _, _, _, rfl, rfl, hfl, atI_nat (j := 1) rfl, _, rfl, fl, _, _, _, rfl, rfl, hfl, atI_nat (j := 2) rfl, ?_⟩
        refine .inl (ch_tab (kdK K) eI_inj okI (fun _ z => z) hc (by omega) (k := pl) (v := some x) rfl ⟨(fun z => nomatch z), rfl⟩ fun c2 H1 s1 _ hc2 => ?_)
        exact ⟨c2, fv, rfl, s1, hc2, hf.tk (TK.of s1)⟩
      | trim n' pl =>
        obtain ⟨x0, r0, e, _, c0⟩ := dpAll_cons hfd
        cases e
        obtain ⟨x1, r1, rfl, e1, c1⟩ := dpAll_cons c0
        obtain rfl := dp_int e1
        obtain rfl := dpAll_nil c1
        refine ⟨_, rfl, rfl, _, rfl, chooseF (str_eqF (by dsimp only [kindS]; decide)) ?_⟩
        refine ⟨_, rfl, rfl, _, rfl, chooseT str_eqT ?_⟩
        refine ⟨_, rfl, _, rfl, fl, _, _, _, rfl, rfl, hfl, atI_nat (j := 1) rfl, ?_⟩
        refine .inl (wo_tab (kdK K) eI_inj okI hc (by omega) (k := pl) rfl fun c2 H1 s1 _ hc2 => ?_)
        exact ⟨c2, fv, rfl, s1, hc2, hf.tk (TK.of s1)⟩
      | register n' =>
        obtain ⟨x0, r0, e, _, c0⟩ := dpAll_cons hfd
        cases e
        obtain rfl := dpAll_nil c0
        refine ⟨_, rfl, rfl, _, rfl, chooseF (str_eqF (by dsimp only [kindS]; decide)) ?_⟩
        refine ⟨_, rfl, rfl, _, rfl, chooseF (str_eqF (by dsimp only [kindS]; decide)) ?_⟩
        refine ⟨_, rfl, rfl, _, rfl, chooseT str_eqT ?_⟩
        refine ⟨_, rfl, _, rfl, _, rfl, fv, h, some o, s.rg, s.hd, rfl, hf, so, rgl, fun a H1 s1 hf1 => ?_⟩
        exact ⟨c, .ref a, rfl, s1, hc.same s1, hf1⟩
      | leave n' held =>
        obtain ⟨x0, r0, e, _, c0⟩ := dpAll_cons hfd
        cases e
        obtain ⟨x1, r1, rfl, e1, c1⟩ := dpAll_cons c0
        obtain rfl := dp_bool e1
        obtain rfl := dpAll_nil c1
        refine ⟨_, rfl, rfl, _, rfl, chooseF (str_eqF (by dsimp only [kindS]; decide)) ?_⟩
        refine ⟨_, rfl, rfl, _, rfl, chooseF (str_eqF (by dsimp only [kindS]; decide)) ?_⟩
        refine ⟨_, rfl, rfl, _, rfl, chooseF (str_eqF (by dsimp only [kindS]; decide)) ?_⟩
        refine ⟨_, rfl, rfl, _, rfl, chooseT str_eqT ?_⟩
        refine ⟨_, rfl, _, rfl, fv, h, none, s.rg, s.hd, rfl, hf, so, rgl, fun a H1 s1 hf1 => ?_⟩
        refine ⟨_, rfl, fl, _, _, _, rfl, rfl, SqT_same s1 hfl, atI_nat (j := 1) rfl, held, rfl, ?_⟩
        cases held with
        | false => exact chooseF rfl ⟨c, .ref a, rfl, s1, hc.same s1, hf1⟩
        | true =>
          refine chooseT rfl ?_
          refine fence_put (hd' := none) rfl hf1 (fun H2 R s2 k => k .non H2 (Same.refl _) rfl) fun a2 H2 s2 hf2 => ?_
          exact ⟨c, .ref a2, rfl, s1.trans s2, hc.same (s1.trans s2), hf2⟩
      | reserve n' ww =>
        obtain ⟨x0, r0, e, _, c0⟩ := dpAll_cons hfd
        cases e
        obtain ⟨x1, r1, rfl, e1, c1⟩ := dpAll_cons c0
        obtain rfl := dp_strv e1
        obtain rfl := dpAll_nil c1
        refine ⟨_, rfl, rfl, _, rfl, chooseF (str_eqF (by dsimp only [kindS]; decide)) ?_⟩
        refine ⟨_, rfl, rfl, _, rfl, chooseF (str_eqF (by dsimp only [kindS]; decide)) ?_⟩
        refine ⟨_, rfl, rfl, _, rfl, chooseF (str_eqF (by dsimp only [kindS]; decide)) ?_⟩
        refine ⟨_, rfl, rfl, _, rfl, chooseF (str_eqF (by dsimp only [kindS]; decide)) ?_⟩
        refine ⟨_, rfl, rfl, _, rfl, chooseT str_eqT ?_⟩
        refine fence_put (hd' := some (h, ww)) rfl hf (fun H2 R s2 k => ⟨_, rfl, _, rfl, fl, _, _, _, rfl, rfl, SqT_same s2 hfl, atI_nat (j := 1) rfl, by show 2 ≤ sizeLine; decide, fun t ht => k (.ref t) _ (same_new ht) ⟨t, rfl, SqT.of upd_same, bok⟩⟩) fun a2 H2 s2 hf2 => ?_
        exact ⟨c, .ref a2, rfl, s2, hc.same s2, hf2⟩
      | release n' =>
        obtain ⟨x0, r0, e, _, c0⟩ := dpAll_cons hfd
        cases e
        obtain rfl := dpAll_nil c0
        refine ⟨_, rfl, rfl, _, rfl, chooseF (str_eqF (by dsimp only [kindS]; decide)) ?_⟩
        refine ⟨_, rfl, rfl, _, rfl, chooseF (str_eqF (by dsimp only [kindS]; decide)) ?_⟩
        refine ⟨_, rfl, rfl, _, rfl, chooseF (str_eqF (by dsimp only [kindS]; decide)) ?_⟩
        refine ⟨_, rfl, rfl, _, rfl, chooseF (str_eqF (by dsimp only [kindS]; decide)) ?_⟩
        refine ⟨_, rfl, rfl, _, rfl, chooseF (str_eqF (by dsimp only [kindS]; decide)) ?_⟩
        refine ⟨_, rfl, rfl, _, rfl, chooseT str_eqT ?_⟩
        refine fence_put (hd' := none) rfl hf (fun H2 R s2 k => k .non H2 (Same.refl _) rfl) fun a2 H2 s2 hf2 => ?_
        exact ⟨c, .ref a2, rfl, s2, hc.same s2, hf2⟩
      | preempt n' vv ww =>
        obtain ⟨x0, r0, e, _, c0⟩ := dpAll_cons hfd
        cases e
        obtain ⟨x1, r1, rfl, e1, c1⟩ := dpAll_cons c0
        obtain rfl := dp_int e1
        obtain ⟨x2, r2, rfl, e2, c2⟩ := dpAll_cons c1
        obtain rfl := dpAll_nil c2
        refine ⟨_, rfl, rfl, _, rfl, chooseF (str_eqF (by dsimp only [kindS]; decide)) ?_⟩
        refine ⟨_, rfl, rfl, _, rfl, chooseF (str_eqF (by dsimp only [kindS]; decide)) ?_⟩
        refine ⟨_, rfl, rfl, _, rfl, chooseF (str_eqF (by dsimp only [kindS]; decide)) ?_⟩
        refine ⟨_, rfl, rfl, _, rfl, chooseF (str_eqF (by dsimp only [kindS]; decide)) ?_⟩
        refine ⟨_, rfl, rfl, _, rfl, chooseF (str_eqF (by dsimp only [kindS]; decide)) ?_⟩
        refine ⟨_, rfl, rfl, _, rfl, chooseF (str_eqF (by dsimp only [kindS]; decide)) ?_⟩
        refine ⟨_, rfl, rfl, _, rfl, chooseT str_eqT ?_⟩
        refine ⟨_, rfl, _, rfl, fl, _, _, _, rfl, rfl, hfl, atI_nat (j := 1) rfl, fv, vv, none, s.rg, s.hd, rfl, hf, so, rgl, fun a H1 s1 hf1 => ?_⟩
        refine ⟨_, rfl, fl, _, _, _, rfl, rfl, SqT_same s1 hfl, atI_nat (j := 2) rfl, rfl, _, rfl, ?_⟩
        cases ww with
        | none =>
          obtain rfl := dp_none e2
          exact chooseF rfl ⟨c, .ref a, rfl, s1, hc.same s1, hf1⟩
        | some ww =>
          obtain rfl := dp_strv e2
          refine chooseT rfl ?_
          refine fence_put (hd' := some (h, ww)) rfl hf1 (fun H2 R s2 k => ⟨_, rfl, _, rfl, fl, _, _, _, rfl, rfl, SqT_same (s1.trans s2) hfl, atI_nat (j := 2) rfl, by show 2 ≤ sizeLine; decide, fun t ht => k (.ref t) _ (same_new ht) ⟨t, rfl, SqT.of upd_same, bok⟩⟩) fun a2 H2 s2 hf2 => ?_
          exact ⟨c, .ref a2, rfl, s1.trans s2, hc.same (s1.trans s2), hf2⟩
    · rintro σ' H' ⟨c', fv', rfl, s1, hc', hf'⟩
      refine ⟨_, rfl, _, rfl, _, rfl, by show 3 ≤ sizeLine; decide, fun t ht => ?_⟩
      have s2 := same_new (o := .tup [V.int s.z, V.ref c', fv']) ht
      have ez : (spcL o h s b).z = s.z := by cases b <;> first | rfl | (rename_i x; cases x <;> rfl)
      refine q t _ (s1.trans s2) ⟨t, c', fv', rfl, ?_, hc'.same s2, hf'.tk (TK.of s2)⟩
      rw [ez]; exact SqT.of upd_same
end
end Sg

set_option Elab.async false
set_option linter.all false
set_option maxRecDepth 100000
set_option maxHeartbeats 4000000
namespace Sg
open PySem PySem.Spec PyProof.Rows L2
/-! ### the law's own world does to a state what the effects do -/
def nsB : Bd → Option Int
  | .remove n => some n | .snap n => some n | .drop n _ => some n | b => spcN b
def toldL (st : Sta) (r : Rc) : PyData := match r.b with
  | .mark d => d
  | _ => toldOf st r.h
def markL (st : Sta) (r : Rc) : Mrk := ⟨r.s, r.c, answD (kindS r.b) r.o, toldL st r⟩
/-- the spaces and the snapshots of a record of a space that exists -/
def inL (st : Sta) (o h : Int) (s : Spc) : Bd → List (Int × Spc) × List ((Int × Int) × Cells)
  | .remove n => (delI st.sp n, st.sn.filter fun p => !decide (p.1.1 = n))
  | .snap n => (st.sp, putI st.sn (n, o) s.cs)
  | .drop n m => (st.sp, delI st.sn (n, m))
  | b => match spcN b with
    | none => (st.sp, st.sn)
    | some n => (putI st.sp n (spcL o h s b), st.sn)
def bodyL (st : Sta) (o h : Int) (b : Bd) : List (Int × Spc) × List ((Int × Int) × Cells) := match b with
  | .make n z => (putI st.sp n ⟨z, [], [], none⟩, st.sn)
  | b => match nsB b with
    | none => (st.sp, st.sn)
    | some n => match lookI st.sp n with
      | none => (st.sp, st.sn)
      | some s => inL st o h s b
def lawS (st : Sta) (r : Rc) : Sta := ⟨r.o, (bodyL st r.o r.h r.b).1, (bodyL st r.o r.h r.b).2, putI st.mr r.h (markL st r)⟩
section
variable {α β : Type} [DecidableEq α]
theorem del_put {l : List (α × β)} {k : α} {v : β} : delI (putI l k v) k = delI l k := by
  unfold putI delI
  rw [List.filter_append, List.filter_filter]
  simp
theorem put_put {l : List (α × β)} {k : α} {v w : β} : putI (putI l k v) k w = putI l k w := by
  show delI (putI l k v) k ++ _ = _
  rw [del_put]; rfl
end
theorem host_st {st : Sta} {h s c : Int} {an : PyData} : afterE (.host h s c an) st = { st with mr := putI st.mr h ⟨s, c, an, toldOf st h⟩ } := rfl
theorem after_sp {st : Sta} {e : Eff} {n : Int} (hs : spaceOf e = some n) {m : List (Int × Mrk)} : afterE e { st with mr := m } = { afterE e st with mr := m } := by
  rw [after_in hs, after_in hs]
  show (match lookI st.sp n with | none => { st with mr := m } | some s => within s e { st with mr := m }) = _
  cases lookI st.sp n with
  | none => rfl
  | some s =>
    cases e with
    | key n h k => cases k <;> rfl
    | _ => rfl
theorem one_in {st : Sta} {n h : Int} : afterE (.key n h none) st = match lookI st.sp n with | none => st | some s => { st with sp := putI st.sp n { s with rg := outR s.rg h } } := after_in (n := n) rfl
theorem two_in {st : Sta} {n h : Int} {hd : Option (Int × Str)} : afterE (.hold n hd) (afterE (.key n h none) st) = match lookI st.sp n with | none => st | some s => { st with sp := putI st.sp n { s with rg := outR s.rg h, hd := hd } } := by
  rw [one_in]
  cases hl : lookI st.sp n with
  | none =>
    simp only []
    rw [after_in (n := n) rfl, hl]
  | some s =>
    simp only []
    rw [after_in (n := n) rfl]
    show (match lookI (putI st.sp n _) n with | none => _ | some s => _) = _
    rw [look_put]
    show Sta.mk _ (putI (putI _ _ _) _ _) _ _ = _
    rw [put_put]
theorem law_eq (st : Sta) (r : Rc) : afterR st r = lawS st r := by
  unfold afterR effsR
  rw [List.foldl_cons, host_st]
  obtain ⟨o, h, s, c, b⟩ := r
  cases b with
  | mark d =>
    show afterE (.told h d) _ = _
    rw [after_told (m := ⟨s, c, answD (kindS (.mark d)) o, toldOf st h⟩) look_put]
    show Sta.mk _ _ _ (putI (putI _ _ _) _ _) = _
    rw [put_put]; rfl
  | make n z => rfl
  | remove n =>
    show afterE (.gone n o) _ = _
    rw [after_in (n := n) rfl]
    show (match lookI st.sp n with | none => _ | some s => _) = _
    unfold lawS bodyL nsB
    cases hl : lookI st.sp n with
    | none => simp only [hl]; rfl
    | some s => simp only [hl]; rfl
  | snap n =>
    show afterE (.snap n o (some o)) _ = _
    rw [after_in (n := n) rfl]
    show (match lookI st.sp n with | none => _ | some s => _) = _
    unfold lawS bodyL nsB
    cases hl : lookI st.sp n with
    | none => simp only [hl]; rfl
    | some s => simp only [hl]; rfl
  | drop n m =>
    show afterE (.snap n m none) _ = _
    rw [after_in (n := n) rfl]
    show (match lookI st.sp n with | none => _ | some s => _) = _
    unfold lawS bodyL nsB
    cases hl : lookI st.sp n with
    | none => simp only [hl]; rfl
    | some s => simp only [hl]; rfl
  | write n p v =>
    show afterE (.place n p (some v)) _ = _
    rw [after_in (n := n) rfl]
    show (match lookI st.sp n with | none => _ | some s => _) = _
    unfold lawS bodyL nsB spcN
    cases hl : lookI st.sp n with
    | none => simp only [hl]; rfl
    | some s => simp only [hl]; rfl
  | trim n p =>
    show afterE (.place n p none) _ = _
    rw [after_in (n := n) rfl]
    show (match lookI st.sp n with | none => _ | some s => _) = _
    unfold lawS bodyL nsB spcN
    cases hl : lookI st.sp n with
    | none => simp only [hl]; rfl
    | some s => simp only [hl]; rfl
  | register n =>
    show afterE (.key n h (some o)) _ = _
    rw [after_in (n := n) rfl]
    show (match lookI st.sp n with | none => _ | some s => _) = _
    unfold lawS bodyL nsB spcN
    cases hl : lookI st.sp n with
    | none => simp only [hl]; rfl
    | some s => simp only [hl]; rfl
  | reserve n w =>
    show afterE (.hold n (some (h, w))) _ = _
    rw [after_in (n := n) rfl]
    show (match lookI st.sp n with | none => _ | some s => _) = _
    unfold lawS bodyL nsB spcN
    cases hl : lookI st.sp n with
    | none => simp only [hl]; rfl
    | some s => simp only [hl]; rfl
  | release n =>
    show afterE (.hold n none) _ = _
    rw [after_in (n := n) rfl]
    show (match lookI st.sp n with | none => _ | some s => _) = _
    unfold lawS bodyL nsB spcN
    cases hl : lookI st.sp n with
    | none => simp only [hl]; rfl
    | some s => simp only [hl]; rfl
  | leave n held =>
    cases held with
    | false =>
      show afterE (.key n h none) _ = _
      rw [one_in]
      show (match lookI st.sp n with | none => _ | some s => _) = _
      unfold lawS bodyL nsB spcN
      cases hl : lookI st.sp n with
      | none => simp only [hl]; rfl
      | some s => simp only [hl]; rfl
    | true =>
      show afterE (.hold n none) (afterE (.key n h none) _) = _
      rw [two_in]
      show (match lookI st.sp n with | none => _ | some s => _) = _
      unfold lawS bodyL nsB spcN
      cases hl : lookI st.sp n with
      | none => simp only [hl]; rfl
      | some s => simp only [hl]; rfl
  | preempt n v w =>
    cases w with
    | none =>
      show afterE (.key n v none) _ = _
      rw [one_in]
      show (match lookI st.sp n with | none => _ | some s => _) = _
      unfold lawS bodyL nsB spcN
      cases hl : lookI st.sp n with
      | none => simp only [hl]; rfl
      | some s => simp only [hl]; rfl
    | some w =>
      show afterE (.hold n (some (h, w))) (afterE (.key n v none) _) = _
      rw [two_in]
      show (match lookI st.sp n with | none => _ | some s => _) = _
      unfold lawS bodyL nsB spcN
      cases hl : lookI st.sp n with
      | none => simp only [hl]; rfl
      | some s => simp only [hl]; rfl
end Sg

set_option Elab.async false
set_option linter.all false
set_option maxRecDepth 100000
set_option maxHeartbeats 4000000
namespace Sg
open PySem PySem.Spec PyProof.Rows L2
/-! ### the law's next world -/
def StepAt (K : PySem.W.Frag) (H : Hp) (stp : Addr) (r : Rc) : Prop := ∃ fl ys, SqT K H stp [.str (kindS r.b), .int r.h, .int r.s, .int r.c, .ref fl] ∧ SqT K H fl ys ∧ DpAll K H ys (fldD r.b)
def spLAfter (K : PySem.W.Frag) : Sp := fun vs H Q _ => ∃ (w stp : Addr) (st : Sta) (r : Rc), vs = [.ref w, .int r.o, .ref stp] ∧ StAt K H w st ∧ StG 900 st ∧ (∀ p ∈ st.sp, SrtR p.2.rg) ∧ StepAt K H stp r ∧ bdOk r.b ∧ ∀ D H', Same H H' → StAt K H' D (lawS st r) → Q (.ref D) H'
theorem mark_or (st : Sta) (o h s c : Int) (b : Bd) : (∃ d, b = .mark d) ∨ (¬ kindS b = "mark" ∧ toldL st ⟨o, h, s, c, b⟩ = toldOf st h) := by
  cases b with
  | mark d => exact .inl ⟨d, rfl⟩
  | _ => exact .inr ⟨by dsimp only [kindS]; decide, rfl⟩
section
variable {P : Program} {wd : World} {K : PySem.W.Frag} {mg : Str → Option Value} {base : Heap} {f fL fU fN fS : Addr} {fd fdL fdU fdN fdS : FuncData}
theorem scLAfter : FnScope ["world", "order", "step", "kind", "host", "session", "counter", "fields", "told", "mark", "spaces", "snaps", "name"] ["world", "order", "step"] (defScope sLAfter) := ⟨rfl, rfl, rfl, by decide +kernel, rfl, by decide +kernel, by decide +kernel⟩
theorem ok_lafter (F : Fun K "_law_after" "_law_after" sLAfter f fd) (B : BK mg) (GL : Def P wd K mg base CX0 "_law_with" 2 ["table","key","value"] (spChanged K) fL fdL) (GU : Def P wd K mg base CX0 "_law_without" 1 ["table","key"] (spLWithout K) fU fdU)
    (GN : Def P wd K mg base CX0 "_law_answer" 1 ["order","kind"] (spLAns K) fN fdN) (GS : Def P wd K mg base CX0 "_law_space" 3 ["world","order","host","kind","fields"] (spLSpace K) fS fdS) : FnOk P wd K mg base CX0 4 f fd ["world","order","step"] (spLAfter K) := by
  refine F.ok scLAfter (fun vs H Q E h => ?_) (fun cdv A outer s H vs Q E hr h => ?_)
  · obtain ⟨w, stp, st, r, rfl, _⟩ := h
    rfl
  · obtain ⟨w, stp, st, ⟨o, h, s', c, b⟩, rfl, SA, G, so, ⟨fl, ys, hst, hfl, hfd⟩, bok, q⟩ := h
    have hr3 : Room 3 _ := hr.mono (by decide)
    have hr2 : Room 2 _ := hr.mono (by decide)
    have hr1 : Room 1 _ := hr.mono (by decide)
    refine ⟨_, (pss_cons (ps_asg (pv 2) (pg_tup (by rfl) (pgs_cons (pg_name (i := 3) scLAfter.nd rfl (Or.inl rfl)) (pgs_cons (pg_name (i := 4) scLAfter.nd rfl (Or.inl rfl)) (pgs_cons (pg_name (i := 5) scLAfter.nd rfl (Or.inl rfl)) (pgs_cons (pg_name (i := 6) scLAfter.nd rfl (Or.inl rfl)) (pgs_cons (pg_name (i := 7) scLAfter.nd rfl (Or.inr rfl)) L2.pgs_nil)))))))
      (pss_cons (ps_set (i := 8) scLAfter.nd rfl (Or.inl rfl) (pe_ix ix_tup (pe_dget2 (hu_of hr) (pe_dget (hu_of hr) (pv 0) pe_str (fun _ _ => rfl)) (pv 4) (pe_tup (pa_cons pe_int (pa_cons pe_int (pa_cons pe_non (pa_cons pe_non pa_nil))))) ⟨rfl, rfl, rfl, rfl⟩) pe_int (fun _ _ => rfl)))
      (Evl.pss_cut (ps_if (pt_cmpR op_eq (pv 3) pe_str (nomark _))
      (pss_one (ps_set (i := 8) scLAfter.nd rfl (Or.inl rfl) (pe_ix ix_tup (pv 7) pe_int (fun _ _ => rfl)))) pss_nil)
      (pss_cons (ps_set (i := 9) scLAfter.nd rfl (Or.inl rfl) (pe_tup (pa_cons (pv 5) (pa_cons (pv 6) (pa_cons (pe_call GN.ok hr1 (by rfl) GN.mg GN.kp GN.bd .nil pass0 (pa_cons (pv 1) (pa_cons (pv 3) pa_nil))) (pa_cons (pv 8) pa_nil))))))
      (pss_cons (ps_set (i := 10) scLAfter.nd rfl (Or.inl rfl) (pe_dget (hu_of hr) (pv 0) pe_str (fun _ _ => rfl)))
      (pss_cons (ps_set (i := 11) scLAfter.nd rfl (Or.inr rfl) (pe_dget (hu_of hr) (pv 0) pe_str (fun _ _ => rfl)))
      (Evl.pss_cut (ps_if (pt_cmpR op_eq (pv 3) pe_str (nomark _))
      (pss_one (ps_set (i := 10) scLAfter.nd rfl (Or.inl rfl) (pe_call GL.ok hr2 (by rfl) GL.mg GL.kp GL.bd .nil pass0 (pa_cons (pv 10) (pa_cons (pe_ix ix_tup (pv 7) pe_int (fun _ _ => rfl)) (pa_cons (pe_tup (pa_cons (pe_ix ix_tup (pv 7) pe_int (fun _ _ => rfl)) (pa_cons pe_dnewK (pa_cons (pe_tup (pa_cons (pe_tup pa_nil) (pa_cons pe_non pa_nil))) pa_nil)))) pa_nil)))))) (pss_one (ps_if (PW.pt (pw_and (pt_cmpR op_ne (pv 3) pe_str (nomark _)) (pw_and1 (pt_cmp (pc_din (hu_of hr) (pe_ix ix_tup (pv 7) pe_int (fun _ _ => rfl)) (pv 10))))))
      (pss_one (ps_if (pt_cmpR op_eq (pv 3) pe_str (nomark _))
      (pss_cons (ps_set (i := 10) scLAfter.nd rfl (Or.inl rfl) (pe_call GU.ok hr1 (by rfl) GU.mg GU.kp GU.bd .nil pass0 (pa_cons (pv 10) (pa_cons (pe_ix ix_tup (pv 7) pe_int (fun _ _ => rfl)) pa_nil))))
      (pss_one (ps_set (i := 11) scLAfter.nd rfl (Or.inr rfl) (pe_callTy (call_dictL rfl (u2_of hr)) (by rfl) B.dict (by decide +kernel) (pa_cons (pe_lock (pe_lc (own := [("name", 12)]) (g := gName 12) (tt := tTest (tOp rNe (tOp (rIxT K) (tVar 12) (tC (.int 0))) (tOp (rIxT K) (tVar 7) (tC (.int 0))))) (te := tTup (tCons (tVar 12) (tCons (tDGet (tVar 11) (tVar 12)) tNil))) (by rfl) scLAfter.nd (pi_keys (pv 11)) (blkOk_by (own := [("name", 12)]) (N := ["world", "order", "step", "kind", "host", "session", "counter", "fields", "told", "mark", "spaces", "snaps", "name"]) (sc := defScope sLAfter) (by decide +kernel)) (fun _ _ _ _ _ => pg_name (i := 12) scLAfter.nd rfl (Or.inl rfl)) (fun _ _ _ _ _ => pts_one (by exact (pt_cmpR op_ne (pe_ix ix_tup (pv 12) pe_int (fun _ _ => rfl)) (pe_ix ix_tup (pv 7) pe_int (fun _ _ => rfl)) (nomark _)))) (fun _ _ _ _ _ => by exact (pe_tup (pa_cons (pv 12) (pa_cons (pe_dget (hu_of hr) (pv 11) (pv 12) (fun _ _ => rfl)) pa_nil)))))) pa_nil))))) (pss_one (ps_if (pt_cmpR op_eq (pv 3) pe_str (nomark _))
      (pss_one (ps_set (i := 11) scLAfter.nd rfl (Or.inr rfl) (pe_call GL.ok hr2 (by rfl) GL.mg GL.kp GL.bd .nil pass0 (pa_cons (pv 11) (pa_cons (pe_tup (pa_cons (pe_ix ix_tup (pv 7) pe_int (fun _ _ => rfl)) (pa_cons (pv 1) pa_nil))) (pa_cons (pe_callTy call_dictD (by rfl) B.dict (by decide +kernel) (pa_cons (pe_ix ix_tup (pe_dget (hu_of hr) (pv 10) (pe_ix ix_tup (pv 7) pe_int (fun _ _ => rfl)) (fun _ _ => rfl)) pe_int (fun _ _ => rfl)) pa_nil)) pa_nil)))))) (pss_one (ps_if (pt_cmpR op_eq (pv 3) pe_str (nomark _))
      (pss_one (ps_set (i := 11) scLAfter.nd rfl (Or.inr rfl) (pe_call GU.ok hr1 (by rfl) GU.mg GU.kp GU.bd .nil pass0 (pa_cons (pv 11) (pa_cons (pe_tup (pa_cons (pe_ix ix_tup (pv 7) pe_int (fun _ _ => rfl)) (pa_cons (pe_ix ix_tup (pv 7) pe_int (fun _ _ => rfl)) pa_nil))) pa_nil))))) (pss_one (ps_set (i := 10) scLAfter.nd rfl (Or.inl rfl) (pe_call GL.ok hr2 (by rfl) GL.mg GL.kp GL.bd .nil pass0 (pa_cons (pv 10) (pa_cons (pe_ix ix_tup (pv 7) pe_int (fun _ _ => rfl)) (pa_cons (pe_call GS.ok hr3 (by rfl) GS.mg GS.kp GS.bd .nil pass0 (pa_cons (pv 0) (pa_cons (pv 1) (pa_cons (pv 4) (pa_cons (pv 3) (pa_cons (pv 7) pa_nil)))))) pa_nil)))))))))))) pss_nil)))
      (pss_one (ps_ret (pe_disp (pps_cons pe_str (pv 1) (pps_cons pe_str (pv 10) (pps_cons pe_str (pv 11) (pps_cons pe_str (pe_call GL.ok hr2 (by rfl) GL.mg GL.kp GL.bd .nil pass0 (pa_cons (pe_dget (hu_of hr) (pv 0) pe_str (fun _ _ => rfl)) (pa_cons (pv 4) (pa_cons (pv 9) pa_nil)))) pps_nil)))) rfl rfl (by decide) (by decide))))))))))), ?_⟩
    obtain ⟨b1, b2, b3, ha, t1, t2, t3⟩ := id SA
    obtain ⟨kvs3, hb3, pr3, nd3⟩ := id t3
    refine ⟨_, rfl, stp, _, rfl, hst, rfl, _, _, rfl, _, _, rfl, _, _, rfl, _, _, rfl, _, _, rfl, rfl, ?_⟩
    refine ⟨_, rfl, w, .ref b3, rfl, .inl ⟨_, .inr "marks", .inl ha, rfl, rfl⟩, b3, rfl, .inl ⟨kvs3, .inl hb3⟩, _, rfl, by show 4 ≤ sizeLine; decide, fun d hd => ?_⟩
    have s1 := same_new (o := .tup [V.int 0, V.int 0, V.non, V.non]) hd
    have hd1 : (upd H d (.tup [V.int 0, V.int 0, V.non, V.non])) d = some (.tup [V.int 0, V.int 0, V.non, V.non]) := upd_same
    generalize upd H d (.tup [V.int 0, V.int 0, V.non, V.non]) = H1 at s1 hd1
    have found : ∃ o p x1 x2 x3 x4, DGet H1 b3 (.int h) o ∧ o.getD (.ref d) = .ref p ∧ SqT K H1 p [x1, x2, x3, x4] ∧ Dp K H1 x4 (toldOf st h) := by
      rcases pr_look (R := MrkAt K H) eI_inj (k := h) pr3 with ⟨e0, hz⟩ | ⟨m, z, e0, hz, az⟩
      · refine ⟨none, d, _, _, _, _, .inl ⟨_, .inl h, .inl (s1 _ _ hb3), rfl, hz.symm⟩, rfl, SqT.of hd1, ?_⟩
        unfold toldOf; rw [e0]; exact .non
      · unfold MrkAt markD at az
        cases az with
        | tup hp hd =>
          obtain ⟨x1, r1, rfl, e1, c1⟩ := dpAll_cons hd
          obtain ⟨x2, r2, rfl, e2, c2⟩ := dpAll_cons c1
          obtain ⟨x3, r3, rfl, e3, c3⟩ := dpAll_cons c2
          obtain ⟨x4, r4, rfl, e4, c4⟩ := dpAll_cons c3
          obtain rfl := dpAll_nil c4
          refine ⟨some _, _, _, _, _, _, .inl ⟨_, .inl h, .inl (s1 _ _ hb3), rfl, hz.symm⟩, rfl, SqT_same s1 hp, ?_⟩
          unfold toldOf; rw [e0]; exact dp_same s1 _ _ e4
    obtain ⟨og, p, x1, x2, x3, x4, hg, ho, hp, h4⟩ := found
    refine ⟨og, hg, ?_⟩
    rw [ho]
    refine ⟨p, _, _, _, rfl, rfl, hp, atI_nat (j := 3) rfl, ?_⟩
    refine ⟨fun σ' H' => ∃ x, σ' = [some (.ref w), some (.int o), some (.ref stp), some (.str (kindS b)), some (.int h), some (.int s'), some (.int c), some (.ref fl), some x, none, none, none, none] ∧ Same H H' ∧ Dp K H' x (toldL st ⟨o, h, s', c, b⟩), ?_, ?_⟩
    · rcases mark_or st o h s' c b with ⟨dm, rfl⟩ | ⟨hk, et⟩
      · refine ⟨_, rfl, rfl, _, rfl, chooseT str_eqT ?_⟩
        obtain ⟨x0, r0, rfl, e0, c0⟩ := dpAll_cons hfd
        exact ⟨_, rfl, fl, _, _, _, rfl, rfl, SqT_same s1 hfl, atI_nat (j := 0) rfl, x0, rfl, s1, dp_same s1 _ _ e0⟩
      · refine ⟨_, rfl, rfl, _, rfl, chooseF (str_eqF hk) ?_⟩
        exact ⟨x4, rfl, s1, by rw [et]; exact h4⟩
    rintro σ' H2 ⟨x, rfl, s2, hx⟩
    refine ⟨_, rfl, _, rfl, _, rfl, _, rfl, o, kindS b, rfl, fun v H3 s3 hv => ?_⟩
    refine ⟨_, rfl, by show 4 ≤ sizeLine; decide, fun m hm => ?_⟩
    have s4 := same_new (o := .tup [V.int s', V.int c, v, x]) hm
    have nm : MrkAt K (upd H3 m (.tup [V.int s', V.int c, v, x])) (.ref m) (markL st ⟨o, h, s', c, b⟩) := .tup (SqT.of upd_same) (.cons (.int _) (.cons (.int _) (.cons (dp_same s4 _ _ hv) (.cons (dp_same (s3.trans s4) _ _ hx) .nil))))
    have sH := s2.trans (s3.trans s4)
    generalize upd H3 m (.tup [V.int s', V.int c, v, x]) = H4 at nm sH
    clear s4 hm hv s3 hx hg hp h4 hd1 s1 hd
    refine ⟨_, rfl, w, .ref b1, rfl, .inl ⟨_, .inr "spaces", .inl (sH _ _ ha), rfl, rfl⟩, ?_⟩
    refine ⟨_, rfl, w, .ref b2, rfl, .inl ⟨_, .inr "snaps", .inl (sH _ _ ha), rfl, rfl⟩, ?_⟩
    have u1 : TabAt (kdK K) (SpcAt K) eI H4 b1 st.sp := TabAt.same (fun _ _ z => z.same sH) sH t1
    have u2 : TabAt (kdT K) (SnpAt K) eP H4 b2 st.sn := TabAt.same (fun _ _ z => z.same sH) sH t2
    have u3 : TabAt (kdK K) (MrkAt K) eI H4 b3 st.mr := TabAt.same (fun _ _ z => z.same sH) sH t3
    have gfl := SqT_same sH hfl
    have gfd := dpAll_same sH _ _ hfd
    refine ⟨fun σ' H' => ∃ c1 c2, σ' = [some (.ref w), some (.int o), some (.ref stp), some (.str (kindS b)), some (.int h), some (.int s'), some (.int c), some (.ref fl), some x, some (.ref m), some (.ref c1), some (.ref c2), none] ∧ Same H4 H' ∧ TabAt (kdK K) (SpcAt K) eI H' c1 (bodyL st o h b).1 ∧ TabAt (kdT K) (SnpAt K) eP H' c2 (bodyL st o h b).2, ?_, ?_⟩
    · cases b with
      | mark d =>
        refine ⟨_, rfl, rfl, _, rfl, chooseF (str_eqF (by dsimp only [kindS]; decide)) ?_⟩
        refine ⟨_, rfl, rfl, _, rfl, chooseF (by rw [show decide (V.str (kindS (Bd.mark d)) = V.str "mark") = true from str_eqT]; rfl) ?_⟩
        exact chooseF rfl ⟨b1, b2, rfl, Same.refl _, u1, u2⟩
      | make n z =>
        obtain ⟨y0, q0, rfl, e0, d0⟩ := dpAll_cons gfd
        obtain rfl := dp_int e0
        obtain ⟨y1, q1, rfl, e1, d1⟩ := dpAll_cons d0
        obtain rfl := dp_int e1
        obtain rfl := dpAll_nil d1
        refine ⟨_, rfl, rfl, _, rfl, chooseT str_eqT ?_⟩
        refine ⟨_, rfl, _, rfl, fl, _, _, _, rfl, rfl, gfl, atI_nat (j := 0) rfl, _, rfl, fl, _, _, _, rfl, rfl, gfl, atI_nat (j := 1) rfl, fun D0 hD0 => ?_⟩
        have s5 := same_new (o := .dK []) hD0
        have hD1 : (upd H4 D0 (.dK [])) D0 = some (.dK []) := upd_same
        generalize upd H4 D0 (.dK []) = H5 at s5 hD1
        refine ⟨by show 0 ≤ sizeLine; decide, fun g0 hg0 => ?_⟩
        have s6 := same_new (o := .tup []) hg0
        have hg1 : (upd H5 g0 (.tup [])) g0 = some (.tup []) := upd_same
        generalize upd H5 g0 (.tup []) = H6 at s6 hg1
        refine ⟨by show 2 ≤ sizeLine; decide, fun g2 hg2 => ?_⟩
        have s7 := same_new (o := .tup [V.ref g0, V.non]) hg2
        have hg3 : (upd H6 g2 (.tup [V.ref g0, V.non])) g2 = some (.tup [V.ref g0, V.non]) := upd_same
        generalize upd H6 g2 (.tup [V.ref g0, V.non]) = H7 at s7 hg3
        refine ⟨by show 3 ≤ sizeLine; decide, fun q2 hq2 => ?_⟩
        have s8 := same_new (o := .tup [V.int z, V.ref D0, V.ref g2]) hq2
        have hq3 : (upd H7 q2 (.tup [V.int z, V.ref D0, V.ref g2])) q2 = some (.tup [V.int z, V.ref D0, V.ref g2]) := upd_same
        generalize upd H7 q2 (.tup [V.int z, V.ref D0, V.ref g2]) = H8 at s8 hq3
        have s78 := s7.trans s8
        have s68 := s6.trans s78
        have s58 := s5.trans s68
        have ns : SpcAt K H8 (.ref q2) ⟨z, [], [], none⟩ := ⟨q2, D0, .ref g2, rfl, SqT.of hq3, tab_nil (s68 _ _ hD1), ⟨g2, g0, .non, rfl, SqT.of (s8 _ _ hg3), ⟨[], SqT.of (s78 _ _ hg1), .nil⟩, rfl⟩⟩
        refine .inl (ch_tab (kdK K) eI_inj okI (fun _ z => z) ((TabAt.same (fun _ _ z => z.same s58) s58 u1).frz (Same.refl _)) (by have := G.sm.sp; omega) (k := n) (v := some ⟨z, [], [], none⟩) rfl (show OptAt (fun _ => SpcAt K H8) H8 (.ref q2) (some _) from ⟨(fun z => nomatch z), ns⟩) fun c1 H9 s9 _ v1 => ?_)
        exact ⟨c1, b2, rfl, s58.trans s9, TabAt.thaw v1 (fun _ e => e) (fun _ _ z => z.same s9), TabAt.same (fun _ _ z => z.same (s58.trans s9)) (s58.trans s9) u2⟩
      | remove n =>
        obtain ⟨y0, q0, rfl, e0, d0⟩ := dpAll_cons gfd
        obtain rfl := dp_int e0
        obtain rfl := dpAll_nil d0
        refine ⟨_, rfl, rfl, _, rfl, chooseF (str_eqF (by dsimp only [kindS]; decide)) ?_⟩
        refine ⟨_, rfl, rfl, _, rfl, chooseT (by rw [str_eqF (show ¬ kindS _ = "mark" by dsimp only [kindS]; decide)]; rfl) ?_⟩
        obtain ⟨kvs1, hk1, pr1, nd1⟩ := id u1
        rcases pr_look (R := SpcAt K H4) eI_inj (k := n) pr1 with ⟨l0, hz⟩ | ⟨sp, z, l0, hz, az⟩
        · refine ⟨_, rfl, fl, _, _, _, rfl, rfl, gfl, atI_nat (j := 0) rfl, _, rfl, b1, none, rfl, .inl ⟨_, .inl n, .inl hk1, rfl, hz.symm⟩, _, rfl, chooseF rfl ?_⟩
          have eb : bodyL st o h (.remove n) = (st.sp, st.sn) := by
            unfold bodyL nsB
            simp only [l0]
          exact ⟨b1, b2, rfl, Same.refl _, by rw [eb]; exact u1, by rw [eb]; exact u2⟩
        · refine ⟨_, rfl, fl, _, _, _, rfl, rfl, gfl, atI_nat (j := 0) rfl, _, rfl, b1, some z, rfl, .inl ⟨_, .inl n, .inl hk1, rfl, hz.symm⟩, _, rfl, chooseT rfl ?_⟩
          have eb : bodyL st o h (.remove n) = inL st o h sp (.remove n) := by
            unfold bodyL nsB
            simp only [l0]
          rw [eb]
          refine ⟨_, rfl, rfl, _, rfl, chooseT str_eqT ?_⟩
          refine ⟨_, rfl, _, rfl, fl, _, _, _, rfl, rfl, gfl, atI_nat (j := 0) rfl, .inl (wo_tab (kdK K) eI_inj okI u1 (by have := G.sm.sp; omega) (k := n) rfl fun c1 H5 s5 _ v1 => ?_)⟩
          obtain ⟨kvs2, hk2, pr2, nd2⟩ := id (u2.frz s5)
          have ndk := pr_nodup eP_inj (R := SnpAt K H4) pr2 nd2
          have kl := Paired.length pr2
          refine keepL_te (kdT K) (notOf n) (show 12 < 13 by decide) (by decide) rfl hk2 ndk (by have := G.sm.sn; omega) (fun x k H' Q' hk hat t k' => ?_) fun D ps H6 s6 hD pr => ?_
          · rw [pr_keys (R := SnpAt K H4) pr2] at hk
            obtain ⟨p, hp, rfl⟩ := List.mem_map.mp hk
            obtain ⟨b, rfl, hb⟩ := hat
            refine ⟨_, rfl, b, _, _, _, rfl, rfl, SqT.of hb, atI_nat (j := 0) rfl, _, rfl, fl, _, _, _, rfl, rfl, sqT_tk (SqT_same s5 gfl) t, atI_nat (j := 0) rfl, rfl, _, rfl, ?_⟩
            have e : decide (V.int p.1.1 = V.int n) = decide (p.1.1 = n) := by
              by_cases z : p.1.1 = n
              · rw [decide_eq_true z, decide_eq_true (show V.int _ = V.int n by rw [z])]
              · rw [decide_eq_false z, decide_eq_false (show ¬ V.int _ = V.int n from fun y => z (by injection y))]
            show Q' (!decide (V.int p.1.1 = V.int n)) H'
            rw [e]; exact k'
          · refine ⟨D, ps, rfl, SqL.of hD, .inr ⟨_, Paired.imp2 (fun p kv z => (by obtain ⟨y', h1, b, e, h2⟩ := z; subst e; exact ⟨b, SqT.of h1, h2⟩)) pr, List.Nodup.sublist (List.Sublist.map _ List.filter_sublist) ndk, fun p hp => ?_⟩⟩
            have s7 := same_new (o := .dT (kvs2.filter fun p => notOf n p.1)) hp
            have s57 := s5.trans (s6.trans s7)
            exact ⟨c1, p, rfl, s57, TabAt.thaw v1 (fun u e => s7 _ _ (s6 _ _ e)) (fun _ _ z => z.same s57), ⟨_, upd_same, Paired.imp2 (fun p q z => ⟨z.1, SnpAt.same z.2 s57⟩) (pr_filt (R := SnpAt K H4) (f := notOf n) (g := fun k => !decide (k.1 = n)) (fun _ => rfl) pr2), filt_nodup nd2⟩⟩
      | write n p1 v1 =>
        obtain ⟨y0, q0, rfl, e0, d0⟩ := dpAll_cons gfd
        obtain rfl := dp_int e0
        obtain ⟨y1, q1, rfl, e1, d1⟩ := dpAll_cons d0
        obtain rfl := dp_int e1
        obtain ⟨y2, q2, rfl, e2, d2⟩ := dpAll_cons d1
        obtain rfl := dp_int e2
        obtain rfl := dpAll_nil d2
        refine ⟨_, rfl, rfl, _, rfl, chooseF (str_eqF (by dsimp only [kindS]; decide)) ?_⟩
        refine ⟨_, rfl, rfl, _, rfl, chooseT (by rw [str_eqF (show ¬ kindS _ = "mark" by dsimp only [kindS]; decide)]; rfl) ?_⟩
        obtain ⟨kvs1, hk1, pr1, nd1⟩ := id u1
        rcases pr_look (R := SpcAt K H4) eI_inj (k := n) pr1 with ⟨l0, hz⟩ | ⟨sp, z, l0, hz, az⟩
        · refine ⟨_, rfl, fl, _, _, _, rfl, rfl, gfl, atI_nat (j := 0) rfl, _, rfl, b1, none, rfl, .inl ⟨_, .inl n, .inl hk1, rfl, hz.symm⟩, _, rfl, chooseF rfl ?_⟩
          have eb : bodyL st o h (.write n p1 v1) = (st.sp, st.sn) := by
            unfold bodyL nsB spcN
            simp only [l0]
          exact ⟨b1, b2, rfl, Same.refl _, by rw [eb]; exact u1, by rw [eb]; exact u2⟩
        · refine ⟨_, rfl, fl, _, _, _, rfl, rfl, gfl, atI_nat (j := 0) rfl, _, rfl, b1, some z, rfl, .inl ⟨_, .inl n, .inl hk1, rfl, hz.symm⟩, _, rfl, chooseT rfl ?_⟩
          have eb : bodyL st o h (.write n p1 v1) = inL st o h sp (.write n p1 v1) := by
            unfold bodyL nsB spcN
            simp only [l0]
          rw [eb]
          refine ⟨_, rfl, rfl, _, rfl, chooseF (str_eqF (by dsimp only [kindS]; decide)) ?_⟩
          refine ⟨_, rfl, rfl, _, rfl, chooseF (str_eqF (by dsimp only [kindS]; decide)) ?_⟩
          refine ⟨_, rfl, rfl, _, rfl, chooseF (str_eqF (by dsimp only [kindS]; decide)) ?_⟩
          refine ⟨_, rfl, _, rfl, fl, _, _, _, rfl, rfl, gfl, atI_nat (j := 0) rfl, _, rfl, _, rfl, _, rfl, _, rfl, _, rfl, w, fl, st, o, h, n, _, _, sp, rfl, SA.same sH, G, so _ (look_mem l0), gfl, gfd, rfl, l0, bok, fun a H5 s5 hsp => ?_⟩
          refine .inl (ch_tab (kdK K) eI_inj okI (fun _ z => z) ((TabAt.same (fun _ _ z => z.same s5) s5 u1).frz (Same.refl _)) (by have := G.sm.sp; omega) (k := n) (v := some _) rfl (show OptAt (fun _ => SpcAt K H5) H5 (.ref a) (some _) from ⟨(fun z => nomatch z), hsp⟩) fun c1 H9 s9 _ v1 => ?_)
          exact ⟨c1, b2, rfl, s5.trans s9, TabAt.thaw v1 (fun _ e => e) (fun _ _ z => z.same s9), TabAt.same (fun _ _ z => z.same (s5.trans s9)) (s5.trans s9) u2⟩
      | trim n p1 =>
        obtain ⟨y0, q0, rfl, e0, d0⟩ := dpAll_cons gfd
        obtain rfl := dp_int e0
        obtain ⟨y1, q1, rfl, e1, d1⟩ := dpAll_cons d0
        obtain rfl := dp_int e1
        obtain rfl := dpAll_nil d1
        refine ⟨_, rfl, rfl, _, rfl, chooseF (str_eqF (by dsimp only [kindS]; decide)) ?_⟩
        refine ⟨_, rfl, rfl, _, rfl, chooseT (by rw [str_eqF (show ¬ kindS _ = "mark" by dsimp only [kindS]; decide)]; rfl) ?_⟩
        obtain ⟨kvs1, hk1, pr1, nd1⟩ := id u1
        rcases pr_look (R := SpcAt K H4) eI_inj (k := n) pr1 with ⟨l0, hz⟩ | ⟨sp, z, l0, hz, az⟩
        · refine ⟨_, rfl, fl, _, _, _, rfl, rfl, gfl, atI_nat (j := 0) rfl, _, rfl, b1, none, rfl, .inl ⟨_, .inl n, .inl hk1, rfl, hz.symm⟩, _, rfl, chooseF rfl ?_⟩
          have eb : bodyL st o h (.trim n p1) = (st.sp, st.sn) := by
            unfold bodyL nsB spcN
            simp only [l0]
          exact ⟨b1, b2, rfl, Same.refl _, by rw [eb]; exact u1, by rw [eb]; exact u2⟩
        · refine ⟨_, rfl, fl, _, _, _, rfl, rfl, gfl, atI_nat (j := 0) rfl, _, rfl, b1, some z, rfl, .inl ⟨_, .inl n, .inl hk1, rfl, hz.symm⟩, _, rfl, chooseT rfl ?_⟩
          have eb : bodyL st o h (.trim n p1) = inL st o h sp (.trim n p1) := by
            unfold bodyL nsB spcN
            simp only [l0]
          rw [eb]
          refine ⟨_, rfl, rfl, _, rfl, chooseF (str_eqF (by dsimp only [kindS]; decide)) ?_⟩
          refine ⟨_, rfl, rfl, _, rfl, chooseF (str_eqF (by dsimp only [kindS]; decide)) ?_⟩
          refine ⟨_, rfl, rfl, _, rfl, chooseF (str_eqF (by dsimp only [kindS]; decide)) ?_⟩
          refine ⟨_, rfl, _, rfl, fl, _, _, _, rfl, rfl, gfl, atI_nat (j := 0) rfl, _, rfl, _, rfl, _, rfl, _, rfl, _, rfl, w, fl, st, o, h, n, _, _, sp, rfl, SA.same sH, G, so _ (look_mem l0), gfl, gfd, rfl, l0, bok, fun a H5 s5 hsp => ?_⟩
          refine .inl (ch_tab (kdK K) eI_inj okI (fun _ z => z) ((TabAt.same (fun _ _ z => z.same s5) s5 u1).frz (Same.refl _)) (by have := G.sm.sp; omega) (k := n) (v := some _) rfl (show OptAt (fun _ => SpcAt K H5) H5 (.ref a) (some _) from ⟨(fun z => nomatch z), hsp⟩) fun c1 H9 s9 _ v1 => ?_)
          exact ⟨c1, b2, rfl, s5.trans s9, TabAt.thaw v1 (fun _ e => e) (fun _ _ z => z.same s9), TabAt.same (fun _ _ z => z.same (s5.trans s9)) (s5.trans s9) u2⟩
      | register n =>
        obtain ⟨y0, q0, rfl, e0, d0⟩ := dpAll_cons gfd
        obtain rfl := dp_int e0
        obtain rfl := dpAll_nil d0
        refine ⟨_, rfl, rfl, _, rfl, chooseF (str_eqF (by dsimp only [kindS]; decide)) ?_⟩
        refine ⟨_, rfl, rfl, _, rfl, chooseT (by rw [str_eqF (show ¬ kindS _ = "mark" by dsimp only [kindS]; decide)]; rfl) ?_⟩
        obtain ⟨kvs1, hk1, pr1, nd1⟩ := id u1
        rcases pr_look (R := SpcAt K H4) eI_inj (k := n) pr1 with ⟨l0, hz⟩ | ⟨sp, z, l0, hz, az⟩
        · refine ⟨_, rfl, fl, _, _, _, rfl, rfl, gfl, atI_nat (j := 0) rfl, _, rfl, b1, none, rfl, .inl ⟨_, .inl n, .inl hk1, rfl, hz.symm⟩, _, rfl, chooseF rfl ?_⟩
          have eb : bodyL st o h (.register n) = (st.sp, st.sn) := by
            unfold bodyL nsB spcN
            simp only [l0]
          exact ⟨b1, b2, rfl, Same.refl _, by rw [eb]; exact u1, by rw [eb]; exact u2⟩
        · refine ⟨_, rfl, fl, _, _, _, rfl, rfl, gfl, atI_nat (j := 0) rfl, _, rfl, b1, some z, rfl, .inl ⟨_, .inl n, .inl hk1, rfl, hz.symm⟩, _, rfl, chooseT rfl ?_⟩
          have eb : bodyL st o h (.register n) = inL st o h sp (.register n) := by
            unfold bodyL nsB spcN
            simp only [l0]
          rw [eb]
          refine ⟨_, rfl, rfl, _, rfl, chooseF (str_eqF (by dsimp only [kindS]; decide)) ?_⟩
          refine ⟨_, rfl, rfl, _, rfl, chooseF (str_eqF (by dsimp only [kindS]; decide)) ?_⟩
          refine ⟨_, rfl, rfl, _, rfl, chooseF (str_eqF (by dsimp only [kindS]; decide)) ?_⟩
          refine ⟨_, rfl, _, rfl, fl, _, _, _, rfl, rfl, gfl, atI_nat (j := 0) rfl, _, rfl, _, rfl, _, rfl, _, rfl, _, rfl, w, fl, st, o, h, n, _, _, sp, rfl, SA.same sH, G, so _ (look_mem l0), gfl, gfd, rfl, l0, bok, fun a H5 s5 hsp => ?_⟩
          refine .inl (ch_tab (kdK K) eI_inj okI (fun _ z => z) ((TabAt.same (fun _ _ z => z.same s5) s5 u1).frz (Same.refl _)) (by have := G.sm.sp; omega) (k := n) (v := some _) rfl (show OptAt (fun _ => SpcAt K H5) H5 (.ref a) (some _) from ⟨(fun z => nomatch z), hsp⟩) fun c1 H9 s9 _ v1 => ?_)
          exact ⟨c1, b2, rfl, s5.trans s9, TabAt.thaw v1 (fun _ e => e) (fun _ _ z => z.same s9), TabAt.same (fun _ _ z => z.same (s5.trans s9)) (s5.trans s9) u2⟩
      | leave n held =>
        obtain ⟨y0, q0, rfl, e0, d0⟩ := dpAll_cons gfd
        obtain rfl := dp_int e0
        obtain ⟨y1, q1, rfl, e1, d1⟩ := dpAll_cons d0
        obtain rfl := dp_bool e1
        obtain rfl := dpAll_nil d1
        refine ⟨_, rfl, rfl, _, rfl, chooseF (str_eqF (by dsimp only [kindS]; decide)) ?_⟩
        refine ⟨_, rfl, rfl, _, rfl, chooseT (by rw [str_eqF (show ¬ kindS _ = "mark" by dsimp only [kindS]; decide)]; rfl) ?_⟩
        obtain ⟨kvs1, hk1, pr1, nd1⟩ := id u1
        rcases pr_look (R := SpcAt K H4) eI_inj (k := n) pr1 with ⟨l0, hz⟩ | ⟨sp, z, l0, hz, az⟩
        · refine ⟨_, rfl, fl, _, _, _, rfl, rfl, gfl, atI_nat (j := 0) rfl, _, rfl, b1, none, rfl, .inl ⟨_, .inl n, .inl hk1, rfl, hz.symm⟩, _, rfl, chooseF rfl ?_⟩
          have eb : bodyL st o h (.leave n held) = (st.sp, st.sn) := by
            unfold bodyL nsB spcN
            simp only [l0]
          exact ⟨b1, b2, rfl, Same.refl _, by rw [eb]; exact u1, by rw [eb]; exact u2⟩
        · refine ⟨_, rfl, fl, _, _, _, rfl, rfl, gfl, atI_nat (j := 0) rfl, _, rfl, b1, some z, rfl, .inl ⟨_, .inl n, .inl hk1, rfl, hz.symm⟩, _, rfl, chooseT rfl ?_⟩
          have eb : bodyL st o h (.leave n held) = inL st o h sp (.leave n held) := by
            unfold bodyL nsB spcN
            simp only [l0]
          rw [eb]
          refine ⟨_, rfl, rfl, _, rfl, chooseF (str_eqF (by dsimp only [kindS]; decide)) ?_⟩
          refine ⟨_, rfl, rfl, _, rfl, chooseF (str_eqF (by dsimp only [kindS]; decide)) ?_⟩
          refine ⟨_, rfl, rfl, _, rfl, chooseF (str_eqF (by dsimp only [kindS]; decide)) ?_⟩
          refine ⟨_, rfl, _, rfl, fl, _, _, _, rfl, rfl, gfl, atI_nat (j := 0) rfl, _, rfl, _, rfl, _, rfl, _, rfl, _, rfl, w, fl, st, o, h, n, _, _, sp, rfl, SA.same sH, G, so _ (look_mem l0), gfl, gfd, rfl, l0, bok, fun a H5 s5 hsp => ?_⟩
          refine .inl (ch_tab (kdK K) eI_inj okI (fun _ z => z) ((TabAt.same (fun _ _ z => z.same s5) s5 u1).frz (Same.refl _)) (by have := G.sm.sp; omega) (k := n) (v := some _) rfl (show OptAt (fun _ => SpcAt K H5) H5 (.ref a) (some _) from ⟨(fun z => nomatch z), hsp⟩) fun c1 H9 s9 _ v1 => ?_)
          exact ⟨c1, b2, rfl, s5.trans s9, TabAt.thaw v1 (fun _ e => e) (fun _ _ z => z.same s9), TabAt.same (fun _ _ z => z.same (s5.trans s9)) (s5.trans s9) u2⟩
      | reserve n ww =>
        obtain ⟨y0, q0, rfl, e0, d0⟩ := dpAll_cons gfd
        obtain rfl := dp_int e0
        obtain ⟨y1, q1, rfl, e1, d1⟩ := dpAll_cons d0
        obtain rfl := dp_strv e1
        obtain rfl := dpAll_nil d1
        refine ⟨_, rfl, rfl, _, rfl, chooseF (str_eqF (by dsimp only [kindS]; decide)) ?_⟩
        refine ⟨_, rfl, rfl, _, rfl, chooseT (by rw [str_eqF (show ¬ kindS _ = "mark" by dsimp only [kindS]; decide)]; rfl) ?_⟩
        obtain ⟨kvs1, hk1, pr1, nd1⟩ := id u1
        rcases pr_look (R := SpcAt K H4) eI_inj (k := n) pr1 with ⟨l0, hz⟩ | ⟨sp, z, l0, hz, az⟩
        · refine ⟨_, rfl, fl, _, _, _, rfl, rfl, gfl, atI_nat (j := 0) rfl, _, rfl, b1, none, rfl, .inl ⟨_, .inl n, .inl hk1, rfl, hz.symm⟩, _, rfl, chooseF rfl ?_⟩
          have eb : bodyL st o h (.reserve n ww) = (st.sp, st.sn) := by
            unfold bodyL nsB spcN
            simp only [l0]
          exact ⟨b1, b2, rfl, Same.refl _, by rw [eb]; exact u1, by rw [eb]; exact u2⟩
        · refine ⟨_, rfl, fl, _, _, _, rfl, rfl, gfl, atI_nat (j := 0) rfl, _, rfl, b1, some z, rfl, .inl ⟨_, .inl n, .inl hk1, rfl, hz.symm⟩, _, rfl, chooseT rfl ?_⟩
          have eb : bodyL st o h (.reserve n ww) = inL st o h sp (.reserve n ww) := by
            unfold bodyL nsB spcN
            simp only [l0]
          rw [eb]
          refine ⟨_, rfl, rfl, _, rfl, chooseF (str_eqF (by dsimp only [kindS]; decide)) ?_⟩
          refine ⟨_, rfl, rfl, _, rfl, chooseF (str_eqF (by dsimp only [kindS]; decide)) ?_⟩
          refine ⟨_, rfl, rfl, _, rfl, chooseF (str_eqF (by dsimp only [kindS]; decide)) ?_⟩
          refine ⟨_, rfl, _, rfl, fl, _, _, _, rfl, rfl, gfl, atI_nat (j := 0) rfl, _, rfl, _, rfl, _, rfl, _, rfl, _, rfl, w, fl, st, o, h, n, _, _, sp, rfl, SA.same sH, G, so _ (look_mem l0), gfl, gfd, rfl, l0, bok, fun a H5 s5 hsp => ?_⟩
          refine .inl (ch_tab (kdK K) eI_inj okI (fun _ z => z) ((TabAt.same (fun _ _ z => z.same s5) s5 u1).frz (Same.refl _)) (by have := G.sm.sp; omega) (k := n) (v := some _) rfl (show OptAt (fun _ => SpcAt K H5) H5 (.ref a) (some _) from ⟨(fun z => nomatch z), hsp⟩) fun c1 H9 s9 _ v1 => ?_)
          exact ⟨c1, b2, rfl, s5.trans s9, TabAt.thaw v1 (fun _ e => e) (fun _ _ z => z.same s9), TabAt.same (fun _ _ z => z.same (s5.trans s9)) (s5.trans s9) u2⟩
      | release n =>
        obtain ⟨y0, q0, rfl, e0, d0⟩ := dpAll_cons gfd
        obtain rfl := dp_int e0
        obtain rfl := dpAll_nil d0
        refine ⟨_, rfl, rfl, _, rfl, chooseF (str_eqF (by dsimp only [kindS]; decide)) ?_⟩
        refine ⟨_, rfl, rfl, _, rfl, chooseT (by rw [str_eqF (show ¬ kindS _ = "mark" by dsimp only [kindS]; decide)]; rfl) ?_⟩
        obtain ⟨kvs1, hk1, pr1, nd1⟩ := id u1
        rcases pr_look (R := SpcAt K H4) eI_inj (k := n) pr1 with ⟨l0, hz⟩ | ⟨sp, z, l0, hz, az⟩
        · refine ⟨_, rfl, fl, _, _, _, rfl, rfl, gfl, atI_nat (j := 0) rfl, _, rfl, b1, none, rfl, .inl ⟨_, .inl n, .inl hk1, rfl, hz.symm⟩, _, rfl, chooseF rfl ?_⟩
          have eb : bodyL st o h (.release n) = (st.sp, st.sn) := by
            unfold bodyL nsB spcN
            simp only [l0]
          exact ⟨b1, b2, rfl, Same.refl _, by rw [eb]; exact u1, by rw [eb]; exact u2⟩
        · refine ⟨_, rfl, fl, _, _, _, rfl, rfl, gfl, atI_nat (j := 0) rfl, _, rfl, b1, some z, rfl, .inl ⟨_, .inl n, .inl hk1, rfl, hz.symm⟩, _, rfl, chooseT rfl ?_⟩
          have eb : bodyL st o h (.release n) = inL st o h sp (.release n) := by
            unfold bodyL nsB spcN
            simp only [l0]
          rw [eb]
          refine ⟨_, rfl, rfl, _, rfl, chooseF (str_eqF (by dsimp only [kindS]; decide)) ?_⟩
          refine ⟨_, rfl, rfl, _, rfl, chooseF (str_eqF (by dsimp only [kindS]; decide)) ?_⟩
          refine ⟨_, rfl, rfl, _, rfl, chooseF (str_eqF (by dsimp only [kindS]; decide)) ?_⟩
          refine ⟨_, rfl, _, rfl, fl, _, _, _, rfl, rfl, gfl, atI_nat (j := 0) rfl, _, rfl, _, rfl, _, rfl, _, rfl, _, rfl, w, fl, st, o, h, n, _, _, sp, rfl, SA.same sH, G, so _ (look_mem l0), gfl, gfd, rfl, l0, bok, fun a H5 s5 hsp => ?_⟩
          refine .inl (ch_tab (kdK K) eI_inj okI (fun _ z => z) ((TabAt.same (fun _ _ z => z.same s5) s5 u1).frz (Same.refl _)) (by have := G.sm.sp; omega) (k := n) (v := some _) rfl (show OptAt (fun _ => SpcAt K H5) H5 (.ref a) (some _) from ⟨(fun z => nomatch z), hsp⟩) fun c1 H9 s9 _ v1 => ?_)
          exact ⟨c1, b2, rfl, s5.trans s9, TabAt.thaw v1 (fun _ e => e) (fun _ _ z => z.same s9), TabAt.same (fun _ _ z => z.same (s5.trans s9)) (s5.trans s9) u2⟩
      | preempt n v1 ww =>
        obtain ⟨y0, q0, rfl, e0, d0⟩ := dpAll_cons gfd
        obtain rfl := dp_int e0
        obtain ⟨y1, q1, rfl, e1, d1⟩ := dpAll_cons d0
        obtain rfl := dp_int e1
        obtain ⟨y2, q2, rfl, e2, d2⟩ := dpAll_cons d1
        obtain rfl := dpAll_nil d2
        refine ⟨_, rfl, rfl, _, rfl, chooseF (str_eqF (by dsimp only [kindS]; decide)) ?_⟩
        refine ⟨_, rfl, rfl, _, rfl, chooseT (by rw [str_eqF (show ¬ kindS _ = "mark" by dsimp only [kindS]; decide)]; rfl) ?_⟩
        obtain ⟨kvs1, hk1, pr1, nd1⟩ := id u1
        rcases pr_look (R := SpcAt K H4) eI_inj (k := n) pr1 with ⟨l0, hz⟩ | ⟨sp, z, l0, hz, az⟩
        · refine ⟨_, rfl, fl, _, _, _, rfl, rfl, gfl, atI_nat (j := 0) rfl, _, rfl, b1, none, rfl, .inl ⟨_, .inl n, .inl hk1, rfl, hz.symm⟩, _, rfl, chooseF rfl ?_⟩
          have eb : bodyL st o h (.preempt n v1 ww) = (st.sp, st.sn) := by
            unfold bodyL nsB spcN
            simp only [l0]
          exact ⟨b1, b2, rfl, Same.refl _, by rw [eb]; exact u1, by rw [eb]; exact u2⟩
        · refine ⟨_, rfl, fl, _, _, _, rfl, rfl, gfl, atI_nat (j := 0) rfl, _, rfl, b1, some z, rfl, .inl ⟨_, .inl n, .inl hk1, rfl, hz.symm⟩, _, rfl, chooseT rfl ?_⟩
          have eb : bodyL st o h (.preempt n v1 ww) = inL st o h sp (.preempt n v1 ww) := by
            unfold bodyL nsB spcN
            simp only [l0]
          rw [eb]
          refine ⟨_, rfl, rfl, _, rfl, chooseF (str_eqF (by dsimp only [kindS]; decide)) ?_⟩
          refine ⟨_, rfl, rfl, _, rfl, chooseF (str_eqF (by dsimp only [kindS]; decide)) ?_⟩
          refine ⟨_, rfl, rfl, _, rfl, chooseF (str_eqF (by dsimp only [kindS]; decide)) ?_⟩
          refine ⟨_, rfl, _, rfl, fl, _, _, _, rfl, rfl, gfl, atI_nat (j := 0) rfl, _, rfl, _, rfl, _, rfl, _, rfl, _, rfl, w, fl, st, o, h, n, _, _, sp, rfl, SA.same sH, G, so _ (look_mem l0), gfl, gfd, rfl, l0, bok, fun a H5 s5 hsp => ?_⟩
          refine .inl (ch_tab (kdK K) eI_inj okI (fun _ z => z) ((TabAt.same (fun _ _ z => z.same s5) s5 u1).frz (Same.refl _)) (by have := G.sm.sp; omega) (k := n) (v := some _) rfl (show OptAt (fun _ => SpcAt K H5) H5 (.ref a) (some _) from ⟨(fun z => nomatch z), hsp⟩) fun c1 H9 s9 _ v1 => ?_)
          exact ⟨c1, b2, rfl, s5.trans s9, TabAt.thaw v1 (fun _ e => e) (fun _ _ z => z.same s9), TabAt.same (fun _ _ z => z.same (s5.trans s9)) (s5.trans s9) u2⟩
      | snap n =>
        obtain ⟨y0, q0, rfl, e0, d0⟩ := dpAll_cons gfd
        obtain rfl := dp_int e0
        obtain rfl := dpAll_nil d0
        refine ⟨_, rfl, rfl, _, rfl, chooseF (str_eqF (by dsimp only [kindS]; decide)) ?_⟩
        refine ⟨_, rfl, rfl, _, rfl, chooseT (by rw [str_eqF (show ¬ kindS _ = "mark" by dsimp only [kindS]; decide)]; rfl) ?_⟩
        obtain ⟨kvs1, hk1, pr1, nd1⟩ := id u1
        rcases pr_look (R := SpcAt K H4) eI_inj (k := n) pr1 with ⟨l0, hz⟩ | ⟨sp, z, l0, hz, az⟩
        · refine ⟨_, rfl, fl, _, _, _, rfl, rfl, gfl, atI_nat (j := 0) rfl, _, rfl, b1, none, rfl, .inl ⟨_, .inl n, .inl hk1, rfl, hz.symm⟩, _, rfl, chooseF rfl ?_⟩
          have eb : bodyL st o h (.snap n) = (st.sp, st.sn) := by
            unfold bodyL nsB
            simp only [l0]
          exact ⟨b1, b2, rfl, Same.refl _, by rw [eb]; exact u1, by rw [eb]; exact u2⟩
        · refine ⟨_, rfl, fl, _, _, _, rfl, rfl, gfl, atI_nat (j := 0) rfl, _, rfl, b1, some z, rfl, .inl ⟨_, .inl n, .inl hk1, rfl, hz.symm⟩, _, rfl, chooseT rfl ?_⟩
          have eb : bodyL st o h (.snap n) = inL st o h sp (.snap n) := by
            unfold bodyL nsB
            simp only [l0]
          rw [eb]
          refine ⟨_, rfl, rfl, _, rfl, chooseF (str_eqF (by dsimp only [kindS]; decide)) ?_⟩
          refine ⟨_, rfl, rfl, _, rfl, chooseT str_eqT ?_⟩
          obtain ⟨p, cc, fv, rfl, hp, ⟨kc, hcc, prc, ndc⟩, hf⟩ := az
          refine ⟨_, rfl, _, rfl, fl, _, _, _, rfl, rfl, gfl, atI_nat (j := 0) rfl, _, rfl, by show 2 ≤ sizeLine; decide, fun k hk => ?_⟩
          have s5 := same_new (o := .tup [V.int n, V.int o]) hk
          have hk1' : (upd H4 k (.tup [V.int n, V.int o])) k = some (.tup [V.int n, V.int o]) := upd_same
          generalize upd H4 k (.tup [V.int n, V.int o]) = H5 at s5 hk1'
          refine ⟨_, rfl, _, rfl, fl, _, _, _, rfl, rfl, SqT_same s5 gfl, atI_nat (j := 0) rfl, b1, .ref p, rfl, .inl ⟨_, .inl n, .inl (s5 _ _ hk1), rfl, hz.symm⟩, p, _, _, _, rfl, rfl, SqT_same s5 hp, atI_nat (j := 1) rfl, cc, kc, rfl, .inl (s5 _ _ hcc), fun d hd => ?_⟩
          have s6 := same_new (o := .dK kc) hd
          have hd1 : (upd H5 d (.dK kc)) d = some (.dK kc) := upd_same
          generalize upd H5 d (.dK kc) = H6 at s6 hd1
          have s56 := s5.trans s6
          refine .inr (ch_tab (kdT K) eP_inj okP (fun _ z => z) ((TabAt.same (fun _ _ z => z.same s56) s56 u2).frz (Same.refl _)) (by have := G.sm.sn; omega) (k := (n, o)) (v := some sp.cs) ⟨k, rfl, s6 _ _ hk1'⟩ (show OptAt (fun _ => SnpAt K H6) H6 (.ref d) (some _) from ⟨(fun z => nomatch z), d, rfl, kc, hd1, prc, ndc⟩) fun c1 H9 s9 _ v1 => ?_)
          exact ⟨b1, c1, rfl, s56.trans s9, TabAt.same (fun _ _ z => z.same (s56.trans s9)) (s56.trans s9) u1, TabAt.thaw v1 (fun _ e => e) (fun _ _ z => z.same s9)⟩
      | drop n m1 =>
        obtain ⟨y0, q0, rfl, e0, d0⟩ := dpAll_cons gfd
        obtain rfl := dp_int e0
        obtain ⟨y1, q1, rfl, e1, d1⟩ := dpAll_cons d0
        obtain rfl := dp_int e1
        obtain rfl := dpAll_nil d1
        refine ⟨_, rfl, rfl, _, rfl, chooseF (str_eqF (by dsimp only [kindS]; decide)) ?_⟩
        refine ⟨_, rfl, rfl, _, rfl, chooseT (by rw [str_eqF (show ¬ kindS _ = "mark" by dsimp only [kindS]; decide)]; rfl) ?_⟩
        obtain ⟨kvs1, hk1, pr1, nd1⟩ := id u1
        rcases pr_look (R := SpcAt K H4) eI_inj (k := n) pr1 with ⟨l0, hz⟩ | ⟨sp, z, l0, hz, az⟩
        · refine ⟨_, rfl, fl, _, _, _, rfl, rfl, gfl, atI_nat (j := 0) rfl, _, rfl, b1, none, rfl, .inl ⟨_, .inl n, .inl hk1, rfl, hz.symm⟩, _, rfl, chooseF rfl ?_⟩
          have eb : bodyL st o h (.drop n m1) = (st.sp, st.sn) := by
            unfold bodyL nsB
            simp only [l0]
          exact ⟨b1, b2, rfl, Same.refl _, by rw [eb]; exact u1, by rw [eb]; exact u2⟩
        · refine ⟨_, rfl, fl, _, _, _, rfl, rfl, gfl, atI_nat (j := 0) rfl, _, rfl, b1, some z, rfl, .inl ⟨_, .inl n, .inl hk1, rfl, hz.symm⟩, _, rfl, chooseT rfl ?_⟩
          have eb : bodyL st o h (.drop n m1) = inL st o h sp (.drop n m1) := by
            unfold bodyL nsB
            simp only [l0]
          rw [eb]
          refine ⟨_, rfl, rfl, _, rfl, chooseF (str_eqF (by dsimp only [kindS]; decide)) ?_⟩
          refine ⟨_, rfl, rfl, _, rfl, chooseF (str_eqF (by dsimp only [kindS]; decide)) ?_⟩
          refine ⟨_, rfl, rfl, _, rfl, chooseT str_eqT ?_⟩
          refine ⟨_, rfl, _, rfl, fl, _, _, _, rfl, rfl, gfl, atI_nat (j := 0) rfl, _, rfl, fl, _, _, _, rfl, rfl, gfl, atI_nat (j := 1) rfl, by show 2 ≤ sizeLine; decide, fun k hk => ?_⟩
          have s5 := same_new (o := .tup [V.int n, V.int m1]) hk
          have hk1' : (upd H4 k (.tup [V.int n, V.int m1])) k = some (.tup [V.int n, V.int m1]) := upd_same
          generalize upd H4 k (.tup [V.int n, V.int m1]) = H5 at s5 hk1'
          refine .inr (wo_tab (kdT K) eP_inj okP (TabAt.same (fun _ _ z => z.same s5) s5 u2) (by have := G.sm.sn; omega) (k := (n, m1)) ⟨k, rfl, hk1'⟩ fun c1 H6 s6 _ v1 => ?_)
          exact ⟨b1, c1, rfl, s5.trans s6, TabAt.same (fun _ _ z => z.same (s5.trans s6)) (s5.trans s6) u1, TabAt.thaw v1 (fun _ e => e) (fun _ _ z => z.same s6)⟩
    · rintro σ' H5 ⟨c1, c2, rfl, s5, v1, v2⟩
      intro D hD
      have s6 := same_new (o := .dK []) hD
      have hD6 : (upd H5 D (.dK [])) D = some (.dK []) := upd_same
      generalize upd H5 D (.dK []) = H6 at s6 hD6
      have s56 := s5.trans s6
      have w3 : TabAt (kdK K) (fun _ => MrkAt K H5) eI H6 b3 st.mr := (TabAt.same (fun _ _ z => z.same s5) s5 u3).frz s6
      refine ⟨_, rfl, _, rfl, _, rfl, _, rfl, w, .ref b3, rfl, .inl ⟨_, .inr "marks", .inl ((sH.trans s56) _ _ ha), rfl, rfl⟩, _, rfl, _, rfl, .inl (ch_tab (kdK K) eI_inj okI (fun _ z => z) w3 (by have := G.sm.mr; omega) (k := h) (v := some (markL st ⟨o, h, s', c, b⟩)) rfl (show OptAt (fun _ => MrkAt K H5) H6 (.ref m) (some _) from ⟨(fun z => nomatch z), nm.same s5⟩) fun c3 H7 s7 hc3 x3 => ?_)⟩
      refine ⟨s7 _ _ hD6, stK o c1 c2 c3, rfl, by show 4 ≤ 15; decide, ?_⟩
      have n3 : c3 ≠ D := fun e => by rw [e, hD6] at hc3; cases hc3
      have sF : Same H5 (upd H7 D (.dK (mergeK [] (stK o c1 c2 c3)))) := fun a u e => by
        have : a ≠ D := fun z => by rw [z, hD] at e; cases e
        rw [upd_ne this]; exact s7 _ _ (s6 _ _ e)
      refine q D _ (sH.trans (s5.trans sF)) ⟨c1, c2, c3, upd_same, TabAt.same (fun _ _ z => z.same sF) sF v1, TabAt.same (fun _ _ z => z.same sF) sF v2, x3.thaw (fun u e => by rw [upd_ne n3]; exact e) (fun _ _ z => z.same sF)⟩
end
end Sg

set_option Elab.async false
set_option linter.all false
set_option maxRecDepth 100000
set_option maxHeartbeats 4000000
namespace Sg
open PySem PySem.Spec PyProof.Rows L2
/-! ### == of two tables whose keys are tuples, alike entry for entry -/
section
variable {prog : Program} {w : World} {κ : Type} [DecidableEq κ] {knd : HeapKind prog w κ} {A : Around} {E : Value → Shared → Prop} {s : Shared}
/-- alike at the place i -/
def LikeAt (prog : Program) (w : World) (A : Around) (s : Shared) (xs ys : List (κ × Addr × Value)) : Prop := xs.length = ys.length ∧ ∀ (i : Nat) x y, xs[i]? = some x → ys[i]? = some y → x.1 = y.1 ∧ SeqAt.EqP prog w A s x.2.2 y.2.2 true
theorem same_tabs {nm : String} {a b : Addr} {xs ys : List (κ × Addr × Value)} {Q : Bool → Shared → Prop} (na : (a == sysModules) = false) (nb : (b == sysModules) = false) (hx : s.heap.DictOfH knd a xs) (hy : s.heap.DictOfH knd b ys) (hu : knd.room A) (lk : LikeAt prog w A s xs ys) (h : Q true s) :
    wpAny (model prog w) A (Builtin.Dict.samePairs nm a b) Q E s := by
  obtain ⟨oa, ea, pa, ga, _, da, la, ka, _⟩ := hx
  obtain ⟨ob, eb, pb, gb, _, db, lb, kb, nd⟩ := hy
  have za := size_of_entries la
  have zb := size_of_entries lb
  have zz : ea.size = eb.size := by rw [za, zb, lk.1]
  unfold Builtin.Dict.samePairs Builtin.Dict.showsAll
  rw [if_neg (by rw [na]; exact Bool.false_ne_true), if_neg (by rw [nb]; exact Bool.false_ne_true)]
  refine wpAny_bind (wpAny_pure (wpAny_bind (wpAny_pure (wpAny_bind (wpAny_dictEntries ga da ?_)))))
  dsimp only
  refine wpAny_bind (wpAny_dictEntries gb db ?_)
  rw [if_neg (by rw [zz]; simp)]
  refine wpAny_bind (wpAny_dictEpoch ga da (wpAny_bind ?_))
  rw [Std.Legacy.Range.forIn_eq_forIn_range']
  simp only [Std.Legacy.Range.size, Nat.sub_zero, Nat.add_sub_cancel, Nat.div_one]
  refine wpAny_forIn_list _ (fun rest q u => u = s ∧ q = (none, ()) ∧ ∃ i, rest = List.range' i (ea.size - i) ∧ i ≤ ea.size) _ ?_ ?_ _ _ ⟨rfl, rfl, 0, by simp, Nat.zero_le _⟩
  · rintro i rest q u ⟨rfl, rfl, j, hr, _⟩
    have lt : j < ea.size := by
      rcases Nat.lt_or_ge j ea.size with c | c
      · exact c
      · rw [Nat.sub_eq_zero_of_le c] at hr; simp at hr
    rw [show ea.size - j = (ea.size - (j + 1)) + 1 from by omega, List.range'_succ] at hr
    obtain ⟨rfl, hrest⟩ := List.cons.inj hr
    obtain ⟨x, hxi⟩ : ∃ x, xs[i]? = some x := ⟨xs[i]'(by omega), List.getElem?_eq_getElem (by omega)⟩
    obtain ⟨y, hyi⟩ : ∃ y, ys[i]? = some y := ⟨ys[i]'(by omega), List.getElem?_eq_getElem (by omega)⟩
    obtain ⟨ek, eq⟩ := lk.2 i x y hxi hyi
    have enx : ea[i]? = some (entryOfKey knd x) := by rw [entry_at la i, hxi]; rfl
    refine wpAny_bind (wpAny_dictEntries ga da ?_)
    rw [enx]
    have hkx := ka x (List.mem_of_getElem? hxi)
    refine wpAny_bind (wpAny_holding (wpAny_bind (wpAny_dictFind_heap hu hkx gb db lb kb nd (fun no => absurd (show ys[i]? = some (x.1, y.2) by rw [hyi, ek]) (no i y.2)) fun j' p hj' => ?_)))
    have ji : j' = i := by
      have e1 : (ys.map (·.1))[j']? = some x.1 := by rw [List.getElem?_map, hj']; rfl
      have e2 : (ys.map (·.1))[i]? = some x.1 := by rw [List.getElem?_map, hyi, ek]; rfl
      have l1 := (List.getElem?_eq_some_iff.mp e1).1
      have l2 := (List.getElem?_eq_some_iff.mp e2).1
      have ee := (List.getElem?_eq_some_iff.mp e1).2.trans (List.getElem?_eq_some_iff.mp e2).2.symm
      rcases Nat.lt_trichotomy j' i with c | c | c
      · exact absurd ee ((List.pairwise_iff_getElem.mp nd) j' i l1 l2 c)
      · exact c
      · exact absurd ee.symm ((List.pairwise_iff_getElem.mp nd) i j' l2 l1 c)
    subst ji
    have eny : eb[j']? = some (entryOfKey knd y) := by rw [entry_at lb j', hyi]; rfl
    refine wpAny_bind (wpAny_dictEntries gb db ?_)
    rw [eny]
    refine wpAny_holding (eq _ _ ?_)
    show wpAny _ _ (if (!true) = true then _ else _) _ _ _
    rw [if_neg (by decide)]
    refine wpAny_bind (wpAny_dictEpoch ga da ?_)
    rw [if_neg (by simp)]
    exact wpAny_pure ⟨rfl, rfl, j' + 1, hrest, lt⟩
  · rintro q u ⟨rfl, rfl, _⟩
    exact wpAny_pure h
theorem eq_tabs {a b : Addr} {xs ys : List (κ × Addr × Value)} (na : (a == sysModules) = false) (nb : (b == sysModules) = false) (hx : s.heap.DictOfH knd a xs) (hy : s.heap.DictOfH knd b ys) (hu0 : A.units < cLine) (hu : knd.room A.in1) (lk : LikeAt prog w A.in1 s xs ys) (E Q : Value → Shared → Prop) (h : Q (.bool true) s) :
    wpAny (model prog w) A (richCompare .Eq (.ref a) (.ref b)) Q E s := by
  refine wpAny_richCompare_same_room (op := .Eq) hx.typeIs hy.typeIs PySem.F.slot_dict_eq (wpAny_call_entry PySem.F.slot_dict_eq hx.typeIs PySem.F.entry_dict_eq ?_ (PySem.F.args_dict_eq_2 _ _)) hu0
  show wpAny _ _ (Builtin.Dict.dictSlotArgs "__eq__" ⟨[.ref a, .ref b], []⟩ >>= _) _ _ s
  unfold Builtin.Dict.dictSlotArgs
  refine wpAny_bind (wpAny_bind (wpAny_notOrdered_dict hx.typeIs ?_))
  show wpAny _ _ (pure (Value.ref a, Value.ref b)) _ _ s
  refine wpAny_pure (wpAny_bind (wpAny_isInstance (T := "dict") hy.typeIs PySem.F.sub_dict_dict ?_))
  simp only [Bool.not_true, Bool.false_eq_true, if_false]
  refine wpAny_bind (wpAny_pure (wpAny_bind (wpAny_pure (wpAny_bind (same_tabs na nb hx hy hu lk ?_)))))
  exact wpAny_pure ⟨_, rfl, (fun x => nomatch x), h⟩
end
end Sg

set_option Elab.async false
set_option linter.all false
set_option maxRecDepth 100000
set_option maxHeartbeats 4000000
namespace Sg
open PySem PySem.Spec PyProof.Rows L2
/-! ### == of nested tables, alike entry for entry -/
def EqT (K : PySem.W.Frag) (H : Hp) (E : V → V → Prop) (x y : V) : Prop :=
  (∃ a b xs ys, x = .ref a ∧ y = .ref b ∧ SqT K H a xs ∧ SqT K H b ys ∧ Paired E xs ys) ∨
  (∃ a b ks ls, x = .ref a ∧ y = .ref b ∧ H a = some (.dK ks) ∧ H b = some (.dK ls) ∧ ks.length = ls.length ∧ ∀ p ∈ ks, ∃ u, valV ls p.1 = some u ∧ E p.2 u) ∨
  ∃ a b ks ls, x = .ref a ∧ y = .ref b ∧ H a = some (.dT ks) ∧ H b = some (.dT ls) ∧ Paired (fun p q => p.1 = q.1 ∧ E p.2 q.2) ks ls
def EqS (K : PySem.W.Frag) (H : Hp) : Nat → V → V → Prop
  | 0 => fun _ _ => False
  | n + 1 => fun x y => (∃ d, Dp K H x d ∧ Dp K H y d ∧ d.canLay0 = true ∧ d.depth ≤ 64) ∨ EqT K H (EqS K H n) x y
theorem like_at {P : Program} {w : World} {A : Around} {s : Shared} {H : Hp} {F : V → V → Prop} (ih : ∀ x y v u, F x y → RelV x v → RelV y u → SeqAt.EqP P w A s v u true) {ks ls : List (List Key × V)} (h : Paired (fun p q => p.1 = q.1 ∧ F p.2 q.2) ks ls) {xs ys : List (List Key × Addr × Value)} (rx : KT H ks xs) (ry : KT H ls ys) : LikeAt P w A s xs ys := by
  have l1 := Paired.length rx
  have l2 := Paired.length ry
  have l3 := Paired.length h
  refine ⟨by omega, fun i x y hx hy => ?_⟩
  have il := (List.getElem?_eq_some_iff.mp hx).1
  have jl := (List.getElem?_eq_some_iff.mp hy).1
  obtain ⟨x', hx', q1, _, q3⟩ := paired_get rx (show ks[i]? = some (ks[i]'(by omega)) from List.getElem?_eq_getElem (by omega))
  obtain ⟨y', hy', r1, _, r3⟩ := paired_get ry (show ls[i]? = some (ls[i]'(by omega)) from List.getElem?_eq_getElem (by omega))
  rw [hx] at hx'; cases hx'
  rw [hy] at hy'; cases hy'
  obtain ⟨z, hz, t1, t2⟩ := paired_get h (show ks[i]? = some (ks[i]'(by omega)) from List.getElem?_eq_getElem (by omega))
  rw [List.getElem?_eq_getElem (by omega)] at hz
  cases hz
  exact ⟨q1.symm.trans (t1.trans r1), ih _ _ _ _ t2 q3 r3⟩
section
variable {X : Cx} {pins : List (Addr × Obj)} {σ : L2.St} {H : Hp} {s : Shared}
theorem eqT_run (I : L2.Inv X pins σ H s) {A : Around} {F : V → V → Prop} (hu : A.units + 1 < cLine) (ih : ∀ x y v u, F x y → RelV x v → RelV y u → SeqAt.EqP X.prog X.w A.in1 s v u true) {x y : V} {v u : Value} (h : EqT X.K H F x y) (rx : RelV x v) (ry : RelV y u)
    (E Q : Value → Shared → Prop) (q : Q (.bool true) s) : wpAny (model X.prog X.w) A (richCompare .Eq v u) Q E s := by
  rcases h with ⟨a, b, xs, ys, rfl, rfl, ha, hb, hp⟩ | ⟨a, b, ks, ls, rfl, rfl, ha, hb, hl, hp⟩ | ⟨a, b, ks, ls, rfl, rfl, ha, hb, hp⟩
  · obtain rfl : v = Value.ref a := rx
    obtain rfl : u = Value.ref b := ry
    obtain ⟨its, r, e, z⟩ := I.tuple ha
    obtain ⟨its2, r2, e2, z2⟩ := I.tuple hb
    have hsz : its.toArray.size = its2.toArray.size := by rw [List.size_toArray, List.size_toArray, ← r.length, ← r2.length]; exact Paired.length hp
    refine GQ.rc_tupG hsz (by omega) (fun _ s' => s' = s) e e2 (fun i h1 h2 s' es => ?_) (fun s' es => by subst es; exact q) rfl
    subst es
    exact items_run ih hp r r2 i (by simpa using h1) (by simpa using h2) _ _ ⟨rfl, rfl⟩
  · obtain rfl : v = Value.ref a := rx
    obtain rfl : u = Value.ref b := ry
    obtain ⟨_, ya, va, ra, da⟩ := (show ObjOk X.prog X.w H s.heap a (.dK ks) from I.hok a _ ha)
    obtain ⟨_, yb, vb, rb, db⟩ := (show ObjOk X.prog X.w H s.heap b (.dK ls) from I.hok b _ hb)
    refine PySem.W.rcP_dicts (knd := mixKind X.prog X.w) (r := true) ya yb da db (by omega) (fun _ => hits_run ih rb ra hp) E Q ?_
    have e : va.length = vb.length := by rw [← ra.length, ← rb.length]; exact hl
    rw [show (va.length == vb.length && true) = true from by rw [e]; simp]
    exact q
  · obtain rfl : v = Value.ref a := rx
    obtain rfl : u = Value.ref b := ry
    obtain ⟨_, ya, va, ra, da⟩ := dt_of I.hok ha
    obtain ⟨_, yb, vb, rb, db⟩ := dt_of I.hok hb
    exact eq_tabs (knd := tupleKind (mixKind X.prog X.w)) ya yb da db (by omega) (tupleKind_room_in1 hu) (like_at ih hp ra rb) E Q q
theorem eqS_run (I : L2.Inv X pins σ H s) : ∀ (n : Nat) (A : Around), A.units + n + 65 < cLine → ∀ (x y : V) (v u : Value), EqS X.K H n x y → RelV x v → RelV y u → SeqAt.EqP X.prog X.w A s v u true
  | 0, _, _, _, _, _, _, h, _, _ => (show False from h).elim
  | n + 1, A, hu, x, y, v, u, h, rx, ry => by
    rcases h with ⟨d, hd, he, hl, hdp⟩ | h
    · obtain ⟨as, r1⟩ := Dp.reads I d x v hd rx
      obtain ⟨bs, r2⟩ := Dp.reads I d y u he ry
      have := (SeqAt.eqAt_reads d d A s v u as bs r1 r2 hl hl (by rw [Nat.min_self]; omega)).eqP (prog := X.prog) (w := X.w)
      rw [SeqAt.eqv_refl d hl] at this; exact this
    · have step := eqT_run I (A := A) (by omega) (eqS_run I n A.in1 (by show A.units + 1 + n + 65 < cLine; omega)) h rx ry
      obtain ⟨a, b, rfl, rfl⟩ : ∃ a b, x = .ref a ∧ y = .ref b := by
        rcases h with ⟨a, b, _, _, e1, e2, _⟩ | ⟨a, b, _, _, e1, e2, _⟩ | ⟨a, b, _, _, e1, e2, _⟩ <;> exact ⟨a, b, e1, e2⟩
      obtain rfl : v = Value.ref a := rx
      obtain rfl : u = Value.ref b := ry
      by_cases e : a = b
      · subst e
        exact (SeqAt.EqAt.same _).eqP
      · exact SeqAt.eqP_refs e step
def rEqS (K : PySem.W.Frag) : R2 := fun x y H Q => ∃ n, n ≤ 10 ∧ EqT K H (EqS K H n) x y ∧ Q (.bl true) H
theorem op_eqS (hu : X.A.units + 80 < cLine) : OpR X (compareOp .Eq) (rEqS X.K) := by
  intro pins s σ H x y v u Q I rx ry h
  obtain ⟨n, hn, h, q⟩ := h
  exact eqT_run I (A := X.A) (by omega) (eqS_run I n X.A.in1 (by show X.A.units + 1 + n + 65 < cLine; omega)) h rx ry _ _ ⟨.bl true, H, I, rfl, q⟩
end
end Sg

set_option Elab.async false
set_option linter.all false
set_option maxRecDepth 100000
set_option maxHeartbeats 4000000
namespace Sg
open PySem PySem.Spec PyProof.Rows L2
/-! ### != and == of two states that are alike -/
section
variable {prog : Program} {w : World} {κ : Type} [DecidableEq κ] {knd : KeyKind prog w κ} {A : Around} {s : Shared}
theorem ne_dicts {a b : Addr} {ka kb : List (κ × Value)} {E Q : Value → Shared → Prop} (na : (a == sysModules) = false) (nb : (b == sysModules) = false) (da : s.heap.DictOf knd a ka) (db : s.heap.DictOf knd b kb) (hu : A.units < cLine) (hl : ka.length = kb.length)
    (hits : PySem.W.KeqHitsP prog w A.in1 s kb ka true) (h : Q (.bool false) s) : wpAny (model prog w) A (compareOp .NotEq (.ref a) (.ref b)) Q E s := by
  refine wpAny_richCompare_same_room (op := .NotEq) da.typeIs db.typeIs PySem.F.slot_dict_ne (wpAny_call_entry PySem.F.slot_dict_ne da.typeIs PySem.F.entry_dict_ne ?_ (PySem.F.args_dict_ne_2 _ _)) hu
  show wpAny _ _ (Builtin.Dict.dictSlotArgs "__ne__" ⟨[.ref a, .ref b], []⟩ >>= _) _ _ s
  unfold Builtin.Dict.dictSlotArgs
  refine wpAny_bind (wpAny_bind (wpAny_notOrdered_dict da.typeIs ?_))
  show wpAny _ _ (pure (Value.ref a, Value.ref b)) _ _ s
  refine wpAny_pure (wpAny_bind (wpAny_isInstance (T := "dict") db.typeIs PySem.F.sub_dict_dict ?_))
  simp only [Bool.not_true, Bool.false_eq_true, if_false]
  refine wpAny_bind (wpAny_pure (wpAny_bind (wpAny_pure (wpAny_bind (PySem.W.samePairsP (r := true) na nb da db (fun _ => hits) ?_)))))
  refine wpAny_pure ⟨_, rfl, (fun x => nomatch x), ?_⟩
  rw [show ((ka.length == kb.length && true) == false) = false from by rw [hl]; simp]
  exact h
end
section
variable {X : Cx}
/-- two dicts alike: what != says -/
def rNeS (K : PySem.W.Frag) : R2 := fun x y H Q => ∃ (n : Nat) (a b : Addr) (ks ls : List (Key × V)), n ≤ 10 ∧ x = .ref a ∧ y = .ref b ∧ H a = some (.dK ks) ∧ H b = some (.dK ls) ∧ ks.length = ls.length ∧ (∀ p ∈ ks, ∃ u, valV ls p.1 = some u ∧ EqS K H n p.2 u) ∧ Q (.bl false) H
theorem op_neS (hu : X.A.units + 80 < cLine) : OpR X (compareOp .NotEq) (rNeS X.K) := by
  intro pins s σ H x y v u Q I rx ry h
  obtain ⟨n, a, b, ks, ls, hn, rfl, rfl, ha, hb, hl, hp, q⟩ := h
  obtain rfl : v = Value.ref a := rx
  obtain rfl : u = Value.ref b := ry
  obtain ⟨_, ya, va, ra, da⟩ := (show ObjOk X.prog X.w H s.heap a (.dK ks) from I.hok a _ ha)
  obtain ⟨_, yb, vb, rb, db⟩ := (show ObjOk X.prog X.w H s.heap b (.dK ls) from I.hok b _ hb)
  exact ne_dicts (knd := mixKind X.prog X.w) ya yb da db (by omega) (by rw [← ra.length, ← rb.length]; exact hl) (hits_run (eqS_run I n X.A.in1 (by show X.A.units + 1 + n + 65 < cLine; omega)) rb ra hp) ⟨.bl false, H, I, rfl, q⟩
end
/-! ### two states that hold the same -/
section
variable {K : PySem.W.Frag} {H : Hp}
theorem hold_dp {v : V} {hd : Option (Int × Str)} (h : HoldV K H v hd) : Dp K H v (holdD hd) := by
  cases hd with
  | none => obtain rfl : v = .non := h; exact .non
  | some p => obtain ⟨q, rfl, hq, _⟩ := h; exact .tup hq (.cons (.int _) (.cons (.str _) .nil))
theorem rows_dp : ∀ {ps : List Addr} {rs : List (Int × Int)}, Paired (fun (p : Addr) (x : Int × Int) => H p = some (.tup [.int x.1, .int x.2])) ps rs → DpAll K H (ps.map V.ref) (rs.map rowD)
  | _, _, .nil => .nil
  | _, _, .cons h t => .cons (.tup (SqT.of h) (.cons (.int _) (.cons (.int _) .nil))) (rows_dp t)
theorem fence_dp {v : V} {rg : List (Int × Int)} {hd : Option (Int × Str)} (h : FenceAt K H v rg hd) : Dp K H v (fenceD rg hd) := by
  obtain ⟨a, r, hv, rfl, h1, ⟨ps, h2, h3⟩, h4⟩ := h
  exact .tup h1 (.cons (.tup h2 (rows_dp h3)) (.cons (hold_dp h4) .nil))
theorem rows_lay : ∀ rs : List (Int × Int), PyData.canLayAll0 (rs.map rowD) = true ∧ PyData.depthAll (rs.map rowD) ≤ 1
  | [] => ⟨by simp [PyData.canLayAll0], by simp [PyData.depthAll]⟩
  | x :: rs => by
    obtain ⟨i1, i2⟩ := rows_lay rs
    refine ⟨by simp [rowD, PyData.canLayAll0, PyData.canLay0, i1], ?_⟩
    simp only [List.map_cons, rowD, PyData.depthAll, PyData.depth]; omega
theorem fence_lay {rg : List (Int × Int)} {hd : Option (Int × Str)} (ok : hdOk hd) : (fenceD rg hd).canLay0 = true ∧ (fenceD rg hd).depth ≤ 64 := by
  obtain ⟨i1, i2⟩ := rows_lay rg
  cases hd with
  | none =>
    refine ⟨by simp [fenceD, holdD, PyData.canLay0, PyData.canLayAll0, i1], ?_⟩
    simp only [fenceD, holdD, PyData.depth, PyData.depthAll]; omega
  | some p =>
    obtain ⟨h, w⟩ := p
    refine ⟨by simp [fenceD, holdD, PyData.canLay0, PyData.canLayAll0, i1, ok h w rfl], ?_⟩
    simp only [fenceD, holdD, PyData.depth, PyData.depthAll]; omega
theorem fence_ok {v : V} {rg : List (Int × Int)} {hd : Option (Int × Str)} (h : FenceAt K H v rg hd) : hdOk hd := by
  obtain ⟨a, r, hv, rfl, h1, h2, h4⟩ := h
  intro x w e
  subst e
  obtain ⟨q, _, _, ok⟩ := h4
  exact ok
theorem eqS_data {n : Nat} {x y : V} {d : PyData} (h1 : Dp K H x d) (h2 : Dp K H y d) (l : d.canLay0 = true) (dp : d.depth ≤ 64) : EqS K H (n + 1) x y := .inl ⟨d, h1, h2, l, dp⟩
/-- two tables alike, the values by E -/
theorem tab_hits {α β : Type} [DecidableEq α] {R : V → β → Prop} {emb : α → Key} {F : V → V → Prop} (he : ∀ a b, emb a = emb b → a = b) (hf : ∀ x y v, R x v → R y v → F x y) : ∀ {ks ls : List (Key × V)} {l : List (α × β)}, (l.map (·.1)).Nodup → Paired (fun (p : Key × V) (q : α × β) => p.1 = emb q.1 ∧ R p.2 q.2) ks l → Paired (fun (p : Key × V) (q : α × β) => p.1 = emb q.1 ∧ R p.2 q.2) ls l →
    ks.length = ls.length ∧ ∀ p ∈ ks, ∃ u, valV ls p.1 = some u ∧ F p.2 u := by
  intro ks ls l nd h1 h2
  refine ⟨(Paired.length h1).trans (Paired.length h2).symm, fun p hp => ?_⟩
  obtain ⟨i, hi⟩ := List.mem_iff_getElem?.mp hp
  obtain ⟨q, hq, e1, r1⟩ := paired_at h1 hi
  have il := (List.getElem?_eq_some_iff.mp hq).1
  have l2 := Paired.length h2
  obtain ⟨u, hu⟩ : ∃ u, ls[i]? = some u := ⟨ls[i]'(by omega), List.getElem?_eq_getElem (by omega)⟩
  obtain ⟨q', hq', e2, r2⟩ := paired_at h2 hu
  rw [hq] at hq'; cases hq'
  refine ⟨u.2, ?_, hf _ _ _ r1 r2⟩
  have : ls[i]? = some (p.1, u.2) := by rw [hu, e1, ← e2]
  exact valV_get (pr_nodup he (R := R) h2 nd) this
theorem tab_pairs {α β : Type} {R : V → β → Prop} {emb : α → List Key} {F : V → V → Prop} (hf : ∀ x y v, R x v → R y v → F x y) : ∀ {ks ls : List (List Key × V)} {l : List (α × β)}, Paired (fun (p : List Key × V) (q : α × β) => p.1 = emb q.1 ∧ R p.2 q.2) ks l → Paired (fun (p : List Key × V) (q : α × β) => p.1 = emb q.1 ∧ R p.2 q.2) ls l → Paired (fun p q => p.1 = q.1 ∧ F p.2 q.2) ks ls
  | _, _, _, .nil, .nil => .nil
  | _, _, _, .cons h t, .cons h' t' => .cons ⟨h.1.trans h'.1.symm, hf _ _ _ h.2 h'.2⟩ (tab_pairs hf t t')
theorem cells_eq {n : Nat} {a b : Addr} {cs : Cells} (h1 : CellAt K H a cs) (h2 : CellAt K H b cs) : EqS K H (n + 2) (.ref a) (.ref b) := by
  obtain ⟨ks, ha, pa, nd⟩ := h1
  obtain ⟨ls, hb, pb, _⟩ := h2
  obtain ⟨e, hp⟩ := tab_hits (R := fun x (v : Int) => x = .int v) (F := EqS K H (n + 1)) eI_inj (fun x y v r1 r2 => by subst r1 r2; exact eqS_data (.int _) (.int _) (by simp [PyData.canLay0]) (by simp [PyData.depth])) nd pa pb
  exact .inr (.inr (.inl ⟨a, b, ks, ls, rfl, rfl, ha, hb, e, hp⟩))
theorem space_eq {n : Nat} {x y : V} {s : Spc} (h1 : SpcAt K H x s) (h2 : SpcAt K H y s) : EqS K H (n + 3) x y := by
  obtain ⟨a, c, f, rfl, a1, a2, a3⟩ := h1
  obtain ⟨b, d, g, rfl, b1, b2, b3⟩ := h2
  obtain ⟨l1, l2⟩ := fence_lay (rg := s.rg) (fence_ok a3)
  exact .inr (.inl ⟨a, b, _, _, rfl, rfl, a1, b1, .cons (eqS_data (.int _) (.int _) (by simp [PyData.canLay0]) (by simp [PyData.depth])) (.cons (cells_eq a2 b2) (.cons (eqS_data (fence_dp a3) (fence_dp b3) l1 l2) .nil))⟩)
/-- the marks' data are plain -/
def MrkOk (m : Mrk) : Prop := (markD m).canLay0 = true ∧ (markD m).depth ≤ 64
theorem state_eq {a b : Addr} {st : Sta} (h1 : StAt K H a st) (h2 : StAt K H b st) (mk : ∀ p ∈ st.mr, MrkOk p.2) : ∃ ks ls, H a = some (.dK ks) ∧ H b = some (.dK ls) ∧ ks.length = ls.length ∧ ∀ p ∈ ks, ∃ u, valV ls p.1 = some u ∧ EqS K H 5 p.2 u := by
  obtain ⟨b1, b2, b3, ha, t1, t2, t3⟩ := h1
  obtain ⟨c1, c2, c3, hb, u1, u2, u3⟩ := h2
  refine ⟨_, _, ha, hb, rfl, fun p hp => ?_⟩
  have s1 : EqS K H 5 (.ref b1) (.ref c1) := by
    obtain ⟨ks, g1, g2, nd⟩ := t1
    obtain ⟨ls, k1, k2, _⟩ := u1
    obtain ⟨e, hp⟩ := tab_hits (R := SpcAt K H) (F := EqS K H 4) eI_inj (fun x y v r1 r2 => space_eq r1 r2) nd g2 k2
    exact .inr (.inr (.inl ⟨b1, c1, ks, ls, rfl, rfl, g1, k1, e, hp⟩))
  have s2 : EqS K H 5 (.ref b2) (.ref c2) := by
    obtain ⟨ks, g1, g2, nd⟩ := t2
    obtain ⟨ls, k1, k2, _⟩ := u2
    refine .inr (.inr (.inr ⟨b2, c2, ks, ls, rfl, rfl, g1, k1, tab_pairs (R := SnpAt K H) (fun x y v r1 r2 => ?_) g2 k2⟩))
    obtain ⟨d, rfl, d1⟩ := r1
    obtain ⟨e, rfl, e1⟩ := r2
    exact cells_eq d1 e1
  have s3 : EqS K H 5 (.ref b3) (.ref c3) := by
    obtain ⟨ks, g1, g2, nd⟩ := t3
    obtain ⟨ls, k1, k2, _⟩ := u3
    refine .inr (.inr (.inl ⟨b3, c3, ks, ls, rfl, rfl, g1, k1, ?_⟩))
    refine ⟨(Paired.length g2).trans (Paired.length k2).symm, fun p hp => ?_⟩
    obtain ⟨i, hi⟩ := List.mem_iff_getElem?.mp hp
    obtain ⟨q, hq, e1, r1⟩ := paired_at g2 hi
    have il := (List.getElem?_eq_some_iff.mp hq).1
    have l2 := Paired.length k2
    obtain ⟨u, hu⟩ : ∃ u, ls[i]? = some u := ⟨ls[i]'(by omega), List.getElem?_eq_getElem (by omega)⟩
    obtain ⟨q', hq', e2, r2⟩ := paired_at k2 hu
    rw [hq] at hq'; cases hq'
    have ok := mk q (List.mem_of_getElem? hq)
    refine ⟨u.2, valV_get (pr_nodup eI_inj (R := MrkAt K H) k2 nd) (by rw [hu, e1, ← e2]), eqS_data r1 r2 ok.1 ok.2⟩
  have s0 : EqS K H 5 (.int st.o) (.int st.o) := eqS_data (.int _) (.int _) (by simp [PyData.canLay0]) (by simp [PyData.depth])
  unfold stK at hp
  simp only [List.mem_cons, List.not_mem_nil, or_false] at hp
  rcases hp with rfl | rfl | rfl | rfl
  · exact ⟨_, rfl, s0⟩
  · exact ⟨_, rfl, s1⟩
  · exact ⟨_, rfl, s2⟩
  · exact ⟨_, rfl, s3⟩
end
end Sg

set_option Elab.async false
set_option linter.all false
set_option maxRecDepth 100000
set_option maxHeartbeats 4000000
namespace Sg
open PySem PySem.Spec PyProof.Rows L2
def spCell (K : PySem.W.Frag) : Sp := fun vs H Q _ => ∃ (a : Addr) (ns : List Int) (k : Nat), vs = [.ref a, .int (k : Int)] ∧ SqL K H a (ns.map V.int) ∧ Q (.int (ns.getD k 0)) H
def spDig (K : PySem.W.Frag) : Sp := fun vs H Q _ => ∃ (c : Int) (b : Addr) (bs : List Int), vs = [.int c, .ref b] ∧ SqL K H b (bs.map V.int) ∧ bs.length ≤ 30 ∧ (∀ x ∈ bs, 0 < x ∧ x < 1073741824) ∧
  ∀ (l : Addr) (ds : List Int) H', H l = none → Same H H' → H' l = some (.lst (ds.map V.int)) → ds.length = bs.length → (∀ (i : Nat) (d b : Int), ds[i]? = some d → bs[i]? = some b → 0 ≤ d ∧ d < b) → Q (.ref l) H'
def spMany (K : PySem.W.Frag) : Sp := fun vs H Q _ => ∃ (a : Addr) (ns : List Int) (x y : Int), vs = [.ref a, .int x, .int y] ∧ SqL K H a (ns.map V.int) ∧ ∀ m, m = x ∨ m = y → Q (.int m) H
section
variable {P : Program} {wd : World} {K : PySem.W.Frag} {mg : Str → Option Value} {base : Heap} {f C : Addr} {fd : FuncData}
theorem scCell : FnScope ["script", "k"] ["script", "k"] (defScope sLCell) := ⟨rfl, rfl, rfl, by decide +kernel, rfl, by decide +kernel, by decide +kernel⟩
theorem ok_cell (F : Fun K "_law_cell" "_law_cell" sLCell f fd) (B : BK mg) : FnOk P wd K mg base CX0 1 f fd ["script", "k"] (spCell K) := by
  refine F.ok scCell (fun vs H Q E h => ?_) (fun cdv A outer s H vs Q E hr h => ?_)
  · obtain ⟨a, ns, k, rfl, _⟩ := h
    rfl
  · obtain ⟨a, ns, k, rfl, hS, q⟩ := h
    refine ⟨_, (pss_cons (ps_if (pt_cmpR op_lt (pv 1) (pe_callB call_len_seq (by rfl) B.len PySem.boot_len (pa_cons (pv 0) pa_nil)) (nomark _))
      (pss_one (ps_ret (pe_callTy call_int1 (by rfl) B.int (by decide +kernel) (pa_cons (pe_ix ix_list (pv 0) (pv 1) (fun _ _ => rfl)) pa_nil)))) pss_nil)
      (pss_one (ps_ret pe_int))), ?_⟩
    refine ⟨_, rfl, _, rfl, a, _, rfl, .inl hS, _, _, rfl, rfl, _, rfl, ?_⟩
    rw [List.length_map]
    by_cases hk : k < ns.length
    · rw [decide_eq_true (show (k : Int) < (ns.length : Int) by omega)]
      refine iteT ⟨_, rfl, _, rfl, a, _, _, _, rfl, rfl, hS, atI_nat (get_map (List.getElem?_eq_getElem hk)), .inl ⟨_, rfl, ?_⟩⟩
      rw [List.getD_eq_getElem?_getD, List.getElem?_eq_getElem hk] at q
      exact q
    · rw [decide_eq_false (show ¬ (k : Int) < (ns.length : Int) by omega)]
      refine iteF ?_
      rw [List.getD_eq_getElem?_getD, List.getElem?_eq_none (by omega)] at q
      exact q
theorem scMany : FnScope ["script", "few", "many"] ["script", "few", "many"] (defScope sLMany) := ⟨rfl, rfl, rfl, by decide +kernel, rfl, by decide +kernel, by decide +kernel⟩
theorem ok_many (F : Fun K "_law_many" "_law_many" sLMany f fd) (B : BK mg) : FnOk P wd K mg base CX0 1 f fd ["script", "few", "many"] (spMany K) := by
  refine F.ok scMany (fun vs H Q E h => ?_) (fun cdv A outer s H vs Q E hr h => ?_)
  · obtain ⟨a, ns, x, y, rfl, _⟩ := h
    rfl
  · obtain ⟨a, ns, x, y, rfl, hS, q⟩ := h
    have q1 := q x (.inl rfl)
    have q2 := q y (.inr rfl)
    refine ⟨_, (pss_cons (ps_if (PW.pt (pw_and (pt_cmpR op_gt (pe_callB call_len_seq (by rfl) B.len PySem.boot_len (pa_cons (pv 0) pa_nil)) pe_int (nomark _)) (pw_and1 (pt_cmpR op_eq (pe_op op_mod (pe_op op_fdiv (pe_callTy call_int1 (by rfl) B.int (by decide +kernel) (pa_cons (pe_ix ix_list (pv 0) pe_int (fun _ _ => rfl)) pa_nil)) pe_int) pe_int) pe_int (nomark _)))))
      (pss_one (ps_ret (pv 2))) pss_nil)
      (pss_one (ps_ret (pv 1)))), ?_⟩
    refine ⟨_, rfl, a, _, rfl, .inl hS, _, _, rfl, rfl, _, rfl, ?_⟩
    rw [List.length_map]
    by_cases hk : 0 < ns.length
    · rw [decide_eq_true (show (0 : Int) < (ns.length : Int) by omega)]
      refine iteT ⟨_, rfl, a, _, _, _, rfl, rfl, hS, atI_nat (j := 0) (get_map (List.getElem?_eq_getElem hk)), .inl ⟨_, rfl, _, _, rfl, rfl, ⟨by decide, by decide⟩, _, _, rfl, rfl, (by show (0 : Int) < 5; decide), rfl, _, rfl, ?_⟩⟩
      refine ite2 (fun _ => ⟨_, rfl, q2⟩) (fun _ => ⟨_, rfl, q1⟩)
    · rw [decide_eq_false (show ¬ (0 : Int) < (ns.length : Int) by omega)]
      exact iteF ⟨_, rfl, q1⟩
theorem scDig : FnScope ["cell", "bases", "digits", "rest", "base", "mixed"] ["cell", "bases"] (defScope sLDigits) := ⟨rfl, rfl, rfl, by decide +kernel, rfl, by decide +kernel, by decide +kernel⟩
theorem dig_snoc {ds bs : List Int} {i : Nat} {d b : Int} (hl : ds.length = i) (hb : bs[i]? = some b) (h : ∀ (i : Nat) (d b : Int), ds[i]? = some d → bs[i]? = some b → 0 ≤ d ∧ d < b) (h0 : 0 ≤ d) (h1 : d < b) :
    ∀ (i : Nat) (d' b : Int), (ds ++ [d])[i]? = some d' → bs[i]? = some b → 0 ≤ d' ∧ d' < b := by
  intro j d' b' e1 e2
  by_cases hj : j < ds.length
  · rw [List.getElem?_append_left hj] at e1
    exact h j d' b' e1 e2
  · have hj' : j = ds.length := by
      have := (List.getElem?_eq_some_iff.mp e1).1
      rw [List.length_append] at this
      simp only [List.length_cons, List.length_nil] at this
      omega
    subst hj'
    rw [List.getElem?_append_right (Nat.le_refl _), Nat.sub_self] at e1
    have e3 : d = d' := by simpa using e1
    rw [hl, hb] at e2
    cases e2
    subst e3
    exact ⟨h0, h1⟩
theorem ok_dig (F : Fun K "_law_digits" "_law_digits" sLDigits f fd) (B : BK mg) : FnOk P wd K mg base CX0 1 f fd ["cell", "bases"] (spDig K) := by
  refine F.ok scDig (fun vs H Q E h => ?_) (fun cdv A outer s H vs Q E hr h => ?_)
  · obtain ⟨c, b, bs, rfl, _⟩ := h
    rfl
  · obtain ⟨c, b, bs, rfl, hS, hbl, hbs, q⟩ := h
    refine ⟨_, (pss_cons (ps_set (i := 2) scDig.nd rfl (Or.inl rfl) (pe_lst pa_nil))
      (pss_cons (ps_set (i := 3) scDig.nd rfl (Or.inl rfl) (pe_callTy call_int1 (by rfl) B.int (by decide +kernel) (pa_cons (pv 0) pa_nil)))
      (pss_cons (ps_for PassesOwn.never rfl (pi_list (pv 1)) (pg_name (i := 4) scDig.nd rfl (Or.inl rfl))
      (pss_one (ps_if (pt_cmpR op_ge (pv 0) (pe_op op_pow pe_int pe_int) (nomark _))
      (pss_cons (ps_expr (pe_bm PySem.F.plainAttrs_list PySem.F.slot_list_append PySem.F.type_list_append mt_append (pv 2) (pa_cons (pe_op op_mod (pe_callTy call_int1 (by rfl) B.int (by decide +kernel) (pa_cons (pv 3) pa_nil)) (pv 4)) pa_nil)))
      (pss_one (ps_set (i := 3) scDig.nd rfl (Or.inl rfl) (pe_op op_fdiv (pv 3) (pv 4))))) (pss_cons (ps_set (i := 3) scDig.nd rfl (Or.inl rfl) (pe_op op_mod (pe_op op_add (pe_op op_add (pe_op op_mul (pe_callTy call_int1 (by rfl) B.int (by decide +kernel) (pa_cons (pv 3) pa_nil)) pe_int) (pe_op op_mul pe_int (pe_callB call_len_seq (by rfl) B.len PySem.boot_len (pa_cons (pv 2) pa_nil)))) pe_int) pe_int))
      (pss_cons (ps_set (i := 5) scDig.nd rfl (Or.inl rfl) (pe_op op_mod (pe_op op_mul (pe_callTy call_int1 (by rfl) B.int (by decide +kernel) (pa_cons (pv 3) pa_nil)) (pe_callTy call_int1 (by rfl) B.int (by decide +kernel) (pa_cons (pv 3) pa_nil))) pe_int))
      (pss_one (ps_expr (pe_bm PySem.F.plainAttrs_list PySem.F.slot_list_append PySem.F.type_list_append mt_append (pv 2) (pa_cons (pe_op op_mod (pe_op op_fdiv (pe_callTy call_int1 (by rfl) B.int (by decide +kernel) (pa_cons (pv 5) pa_nil)) pe_int) (pv 4)) pa_nil)))))))))
      (pss_one (ps_ret (pv 2)))))), ?_⟩
    refine ⟨by show 0 ≤ sizeLine; decide, fun l hl => ?_⟩
    have s1 : Same H (upd H l (.lst [])) := same_new hl
    refine ⟨_, rfl, .inl ⟨_, rfl, ?_⟩⟩
    refine ⟨_, rfl, b, rfl, ⟨_, s1.seq hS⟩, for_list (xs := bs.map V.int) (fun i σ H' => ∃ (rest : Int) (x4 x5 : Option V) (ds : List Int), σ = [some (.int c), some (.ref b), some (.ref l), some (.int rest), x4, x5] ∧ Same H H' ∧ H' l = some (.lst (ds.map V.int)) ∧ ds.length = i ∧ (∀ (i : Nat) (d b : Int), ds[i]? = some d → bs[i]? = some b → 0 ≤ d ∧ d < b)) ?_ ?_ ?_ ?_⟩
    · exact ⟨_, _, _, [], rfl, s1, upd_same, rfl, fun i d b h => by simp at h⟩
    · rintro i σ H' hi ⟨rest, x4, x5, ds, rfl, sm, _⟩
      exact sm.seq hS
    · rintro i x σ H' hx ⟨rest, x4, x5, ds, rfl, sm, hds, hlen, hd⟩
      obtain ⟨bi, hbi, rfl⟩ := map_get hx
      obtain ⟨hb0, hb1⟩ := hbs bi (List.mem_of_getElem? hbi)
      have hil : i < bs.length := (List.getElem?_eq_some_iff.mp hbi).1
      have sl : (ds.map V.int).length < sizeLine := by rw [List.length_map]; exact small1000 (by omega)
      have app : ∀ d : Int, ds.map V.int ++ [V.int d] = (ds ++ [d]).map V.int := fun d => by rw [List.map_append]; rfl
      have sm2 : ∀ o, Same H (upd H' l o) := fun o x u e => by rw [upd_ne (ne_of_none e hl)]; exact sm _ _ e
      refine ⟨_, rfl, _, _, rfl, rfl, ⟨by decide, by decide, by decide⟩, _, _, rfl, rfl, _, rfl, ?_⟩
      refine ite2 (fun _ => ?_) (fun _ => ?_)
      · refine ⟨_, rfl, .inl ⟨rfl, _, SqL.of hds⟩, _, rfl, .inl ⟨_, rfl, _, rfl, _, _, rfl, rfl, hb0, ?_⟩⟩
        refine nil_ ⟨_, _, _, rfl, rfl, hds, sl, ?_⟩
        refine ⟨_, rfl, _, rfl, _, _, rfl, rfl, ⟨hb0, hb1⟩, ?_⟩
        rw [app]
        exact ⟨_, _, _, _, rfl, sm2 _, upd_same, by rw [List.length_append, hlen]; rfl, dig_snoc hlen hbi hd (Int.emod_nonneg _ (by omega)) (Int.emod_lt_of_pos _ hb0)⟩
      · refine ⟨_, rfl, .inl ⟨_, rfl, _, _, rfl, rfl, .inr ⟨by decide, by decide⟩, _, rfl, _, _, rfl, .inl (SqL.of hds), _, _, rfl, rfl, .inl ⟨by decide, by decide⟩, _, _, rfl, rfl, _, _, rfl, rfl, _, _, rfl, rfl, (by show (0 : Int) < 2147483647; decide), ?_⟩⟩
        generalize hg : (rest * 48271 + 1009 * ((ds.map V.int).length : Int) + 12345) % 2147483647 = r2
        have hr0 : 0 ≤ r2 := by rw [← hg]; exact Int.emod_nonneg _ (by decide)
        have hr1 : r2 < 2147483647 := by rw [← hg]; exact Int.emod_lt_of_pos _ (by decide)
        refine ⟨_, rfl, .inl ⟨_, rfl, _, rfl, .inl ⟨_, rfl, _, _, rfl, rfl, .inl ⟨by omega, by omega⟩, _, _, rfl, rfl, (by show (0 : Int) < 2147483629; decide), ?_⟩⟩⟩
        refine ⟨_, rfl, .inl ⟨rfl, _, SqL.of hds⟩, _, rfl, .inl ⟨_, rfl, _, _, rfl, rfl, ⟨by decide, by decide⟩, _, rfl, _, _, rfl, rfl, hb0, ?_⟩⟩
        refine nil_ ⟨_, _, _, rfl, rfl, hds, sl, ?_⟩
        rw [app]
        exact ⟨_, _, _, _, rfl, sm2 _, upd_same, by rw [List.length_append, hlen]; rfl, dig_snoc hlen hbi hd (Int.emod_nonneg _ (by omega)) (Int.emod_lt_of_pos _ hb0)⟩
    · rintro σ H' ⟨rest, x4, x5, ds, rfl, sm, hds, hlen, hd⟩
      rw [List.length_map] at hlen
      exact ⟨_, rfl, q l ds H' hl sm hds hlen hd⟩
end
end Sg

set_option Elab.async false
set_option linter.all false
set_option maxRecDepth 100000
set_option maxHeartbeats 4000000
namespace Sg
open PySem PySem.Spec PyProof.Rows L2
/-! ### the law's steps -/
def spLRecord (K : PySem.W.Frag) : Sp := fun vs H Q _ => ∃ (stp : Addr) (r : Rc), vs = [.int r.o, .ref stp] ∧ StepAt K H stp r ∧ ∀ t H', Same H H' → RecAt K H' t r → Q (.ref t) H'
def sessN (st : Sta) (h : Int) (b : Bd) : Int := (match lookI st.mr h with | none => 1 | some m => m.s) + (if kindS b = "mark" then 1 else 0)
def cntN (st : Sta) (h : Int) (b : Bd) : Int := if kindS b = "mark" then 0 else (match lookI st.mr h with | none => 0 | some m => m.c) + 1
def spLNamed (K : PySem.W.Frag) : Sp := fun vs H Q _ => ∃ (w fl : Addr) (st : Sta) (h : Int) (b : Bd) (ys : List V), vs = [.ref w, .str (kindS b), .int h, .ref fl] ∧ StAt K H w st ∧ SqT K H fl ys ∧ DpAll K H ys (fldD b) ∧
  ∀ stp H', Same H H' → (∀ o, StepAt K H' stp ⟨o, h, sessN st h b, cntN st h b, b⟩) → Q (.ref stp) H'
section
variable {P : Program} {wd : World} {K : PySem.W.Frag} {mg : Str → Option Value} {base : Heap} {f : Addr} {fd : FuncData}
theorem scLRecord : FnScope ["order", "step"] ["order", "step"] (defScope sLRecord) := ⟨rfl, rfl, rfl, by decide +kernel, rfl, by decide +kernel, by decide +kernel⟩
theorem ok_lrecord (F : Fun K "_law_record" "_law_record" sLRecord f fd) (B : BK mg) : FnOk P wd K mg base CX0 1 f fd ["order","step"] (spLRecord K) := by
  refine F.ok scLRecord (fun vs H Q E h => ?_) (fun cdv A outer s H vs Q E hr h => ?_)
  · obtain ⟨stp, r, rfl, _⟩ := h
    rfl
  · obtain ⟨stp, r, rfl, ⟨fl, ys, h1, h2, h3⟩, q⟩ := h
    refine ⟨_, (pss_one (ps_ret (pe_op op_catT (pe_tup (pa_cons (pv 0) (pa_cons (pe_ix ix_tup (pv 1) pe_int (fun _ _ => rfl)) (pa_cons (pe_ix ix_tup (pv 1) pe_int (fun _ _ => rfl)) (pa_cons (pe_ix ix_tup (pv 1) pe_int (fun _ _ => rfl)) (pa_cons (pe_ix ix_tup (pv 1) pe_int (fun _ _ => rfl)) pa_nil)))))) (pe_callTy call_tupleT (by rfl) B.tuple (by decide +kernel) (pa_cons (pe_ix ix_tup (pv 1) pe_int (fun _ _ => rfl)) pa_nil))))), ?_⟩
    refine ⟨_, rfl, _, rfl, stp, _, _, _, rfl, rfl, h1, atI_nat (j := 0) rfl, _, rfl, stp, _, _, _, rfl, rfl, h1, atI_nat (j := 1) rfl, _, rfl, stp, _, _, _, rfl, rfl, h1, atI_nat (j := 2) rfl, _, rfl, stp, _, _, _, rfl, rfl, h1, atI_nat (j := 3) rfl, by show 5 ≤ sizeLine; decide, fun t ht => ?_⟩
    have s1 := same_new (o := .tup [V.int r.o, V.str (kindS r.b), V.int r.h, V.int r.s, V.int r.c]) ht
    have ht1 : (upd H t (.tup [V.int r.o, V.str (kindS r.b), V.int r.h, V.int r.s, V.int r.c])) t = some (.tup [V.int r.o, V.str (kindS r.b), V.int r.h, V.int r.s, V.int r.c]) := upd_same
    generalize upd H t (.tup [V.int r.o, V.str (kindS r.b), V.int r.h, V.int r.s, V.int r.c]) = H1 at s1 ht1
    have fl3 := fld_len r.b
    have dl := dpAll_len h3
    refine ⟨_, rfl, stp, _, _, _, rfl, rfl, SqT_same s1 h1, atI_nat (j := 4) rfl, fl, ys, rfl, SqT_same s1 h2, ?_⟩
    have ne : ys ≠ [] := fun e => by rw [e] at dl; cases hb : r.b <;> rw [hb] at dl <;> simp [fldD] at dl
    refine ⟨t, fl, _, ys, rfl, rfl, SqT.of ht1, SqT_same s1 h2, (by simp), Nat.le_of_lt (small1000 (by simp only [List.length_cons, List.length_nil]; omega)), fun e => absurd e ne, fun _ p hp => ?_⟩
    have s2 := same_new (o := .tup ([V.int r.o, V.str (kindS r.b), V.int r.h, V.int r.s, V.int r.c] ++ ys)) hp
    exact q p _ (s1.trans s2) ⟨ys, SqT.of upd_same, dpAll_same (s1.trans s2) _ _ h3⟩
theorem scLNamed : FnScope ["world", "kind", "host", "fields", "mark"] ["world", "kind", "host", "fields"] (defScope sLNamed) := ⟨rfl, rfl, rfl, by decide +kernel, rfl, by decide +kernel, by decide +kernel⟩
theorem ok_lnamed (F : Fun K "_law_named" "_law_named" sLNamed f fd) : FnOk P wd K mg base CX0 1 f fd ["world","kind","host","fields"] (spLNamed K) := by
  refine F.ok scLNamed (fun vs H Q E h => ?_) (fun cdv A outer s H vs Q E hr h => ?_)
  · obtain ⟨w, fl, st, hh, b, ys, rfl, _⟩ := h
    rfl
  · obtain ⟨w, fl, st, hh, b, ys, rfl, ⟨b1, b2, b3, ha, t1, t2, t3⟩, h2, h3, q⟩ := h
    refine ⟨_, (pss_cons (ps_set (i := 4) scLNamed.nd rfl (Or.inl rfl) (pe_dget2 (hu_of hr) (pe_dget (hu_of hr) (pv 0) pe_str (fun _ _ => rfl)) (pv 2) (pe_tup (pa_cons pe_int (pa_cons pe_int (pa_cons pe_non (pa_cons pe_non pa_nil))))) ⟨rfl, rfl, rfl, rfl⟩))
      (pss_cons (ps_if (pt_cmpR op_eq (pv 1) pe_str (nomark _))
      (pss_one (ps_ret (pe_tup (pa_cons (pv 1) (pa_cons (pv 2) (pa_cons (pe_op op_add (pe_ix ix_tup (pv 4) pe_int (fun _ _ => rfl)) pe_int) (pa_cons pe_int (pa_cons (pv 3) pa_nil)))))))) pss_nil)
      (pss_one (ps_ret (pe_tup (pa_cons (pv 1) (pa_cons (pv 2) (pa_cons (pe_ix ix_tup (pv 4) pe_int (fun _ _ => rfl)) (pa_cons (pe_op op_add (pe_ix ix_tup (pv 4) pe_int (fun _ _ => rfl)) pe_int) (pa_cons (pv 3) pa_nil)))))))))), ?_⟩
    obtain ⟨kvs3, hb3, pr3, nd3⟩ := id t3
    refine ⟨_, rfl, w, .ref b3, rfl, .inl ⟨_, .inr "marks", .inl ha, rfl, rfl⟩, b3, rfl, .inl ⟨kvs3, .inl hb3⟩, _, rfl, by show 4 ≤ sizeLine; decide, fun d hd => ?_⟩
    have s1 := same_new (o := .tup [V.int 1, V.int 0, V.non, V.non]) hd
    have hd1 : (upd H d (.tup [V.int 1, V.int 0, V.non, V.non])) d = some (.tup [V.int 1, V.int 0, V.non, V.non]) := upd_same
    generalize upd H d (.tup [V.int 1, V.int 0, V.non, V.non]) = H1 at s1 hd1
    have found : ∃ o p x3 x4, DGet H1 b3 (.int hh) o ∧ o.getD (.ref d) = .ref p ∧ SqT K H1 p [.int (match lookI st.mr hh with | none => 1 | some m => m.s), .int (match lookI st.mr hh with | none => 0 | some m => m.c), x3, x4] := by
      rcases pr_look (R := MrkAt K H) eI_inj (k := hh) pr3 with ⟨e0, hz⟩ | ⟨m, z, e0, hz, az⟩
      · rw [e0]
        exact ⟨none, d, _, _, .inl ⟨_, .inl hh, .inl (s1 _ _ hb3), rfl, hz.symm⟩, rfl, SqT.of hd1⟩
      · rw [e0]
        unfold MrkAt markD at az
        cases az with
        | tup hp hd =>
          obtain ⟨x1, r1, rfl, e1, c1⟩ := dpAll_cons hd
          obtain rfl := dp_int e1
          obtain ⟨x2, r2, rfl, e2, c2⟩ := dpAll_cons c1
          obtain rfl := dp_int e2
          obtain ⟨x3, r3, rfl, e3, c3⟩ := dpAll_cons c2
          obtain ⟨x4, r4, rfl, e4, c4⟩ := dpAll_cons c3
          obtain rfl := dpAll_nil c4
          exact ⟨some _, _, _, _, .inl ⟨_, .inl hh, .inl (s1 _ _ hb3), rfl, hz.symm⟩, rfl, SqT_same s1 hp⟩
    obtain ⟨og, p, x3, x4, hg, ho, hp⟩ := found
    refine ⟨og, hg, ?_⟩
    rw [ho]
    refine ⟨_, rfl, rfl, _, rfl, ?_⟩
    by_cases c : kindS b = "mark"
    · refine chooseT (decide_eq_true (by rw [c])) ?_
      refine ⟨_, rfl, _, rfl, _, rfl, p, _, _, _, rfl, rfl, hp, atI_nat (j := 0) rfl, _, _, rfl, rfl, _, rfl, by show 5 ≤ sizeLine; decide, fun t ht => ?_⟩
      refine q t _ (s1.trans (same_new ht)) fun o => ⟨fl, ys, ?_, SqT_same (s1.trans (same_new ht)) h2, dpAll_same (s1.trans (same_new ht)) _ _ h3⟩
      simp only [sessN, cntN, if_pos c]
      exact SqT.of upd_same
    · refine chooseF (str_eqF c) ?_
      refine ⟨_, rfl, _, rfl, _, rfl, p, _, _, _, rfl, rfl, hp, atI_nat (j := 0) rfl, _, rfl, p, _, _, _, rfl, rfl, hp, atI_nat (j := 1) rfl, _, _, rfl, rfl, _, rfl, by show 5 ≤ sizeLine; decide, fun t ht => ?_⟩
      refine q t _ (s1.trans (same_new ht)) fun o => ⟨fl, ys, ?_, SqT_same (s1.trans (same_new ht)) h2, dpAll_same (s1.trans (same_new ht)) _ _ h3⟩
      simp only [sessN, cntN, if_neg c, Int.add_zero]
      exact SqT.of upd_same
end
end Sg

set_option Elab.async false
set_option linter.all false
set_option maxRecDepth 100000
set_option maxHeartbeats 4000000
namespace Sg
open PySem PySem.Spec PyProof.Rows L2
/-! ### what a host was told -/
def told4 (st : Sta) (h : Int) : PyData := match lookI st.mr h with
  | none => .none
  | some m => if m.c = 0 then m.td else .tuple [.int m.s, .int m.c, m.an]
def spLTold (K : PySem.W.Frag) : Sp := fun vs H Q _ => ∃ (w : Addr) (st : Sta) (h : Int), vs = [.ref w, .int h] ∧ StAt K H w st ∧ ∀ v H', Same H H' → Dp K H' v (told4 st h) → Q v H'
theorem dp_non {K : PySem.W.Frag} {H : Hp} {x : V} {d : PyData} (h : Dp K H x d) : decide (x = .non) = true ↔ d = .none := by
  cases h <;> simp
section
variable {P : Program} {wd : World} {K : PySem.W.Frag} {mg : Str → Option Value} {base : Heap} {f : Addr} {fd : FuncData}
theorem scLTold : FnScope ["world", "host", "mark"] ["world", "host"] (defScope sLTold) := ⟨rfl, rfl, rfl, by decide +kernel, rfl, by decide +kernel, by decide +kernel⟩
theorem ok_ltold (F : Fun K "_law_told" "_law_told" sLTold f fd) : FnOk P wd K mg base CX0 1 f fd ["world","host"] (spLTold K) := by
  refine F.ok scLTold (fun vs H Q E h => ?_) (fun cdv A outer s H vs Q E hr h => ?_)
  · obtain ⟨w, st, hh, rfl, _⟩ := h
    rfl
  · obtain ⟨w, st, hh, rfl, ⟨b1, b2, b3, ha, t1, t2, t3⟩, q⟩ := h
    refine ⟨_, (pss_cons (ps_set (i := 2) scLTold.nd rfl (Or.inl rfl) (pe_dget2 (hu_of hr) (pe_dget (hu_of hr) (pv 0) pe_str (fun _ _ => rfl)) (pv 1) pe_non ⟨rfl, rfl, rfl, rfl⟩))
      (pss_cons (ps_if (PW.pt (pw_or (pt_cmpR op_isN (pv 2) pe_non (nomark _)) (pw_or1 (PW.pt (pw_and (pt_cmpR op_eq (pe_ix ix_tup (pv 2) pe_int (fun _ _ => rfl)) pe_int (nomark _)) (pw_and1 (pt_cmpR op_isN (pe_ix ix_tup (pv 2) pe_int (fun _ _ => rfl)) pe_non (nomark _))))))))
      (pss_one (ps_ret pe_non)) pss_nil)
      (pss_cons (ps_if (pt_cmpR op_eq (pe_ix ix_tup (pv 2) pe_int (fun _ _ => rfl)) pe_int (nomark _))
      (pss_one (ps_ret (pe_ix ix_tup (pv 2) pe_int (fun _ _ => rfl)))) pss_nil)
      (pss_one (ps_ret (pe_slice sl_any (pv 2) po_none (po_some pe_int))))))), ?_⟩
    obtain ⟨kvs3, hb3, pr3, nd3⟩ := id t3
    refine ⟨_, rfl, w, .ref b3, rfl, .inl ⟨_, .inr "marks", .inl ha, rfl, rfl⟩, b3, rfl, .inl ⟨kvs3, .inl hb3⟩, _, rfl, ?_⟩
    rcases pr_look (R := MrkAt K H) eI_inj (k := hh) pr3 with ⟨e0, hz⟩ | ⟨m, z, e0, hz, az⟩
    · refine ⟨none, .inl ⟨_, .inl hh, .inl hb3, rfl, hz.symm⟩, ?_⟩
      refine ⟨_, rfl, rfl, _, rfl, ?_⟩
      refine chooseT rfl ?_
      refine q .non H (Same.refl _) ?_
      unfold told4; rw [e0]; exact .non
    · refine ⟨some z, .inl ⟨_, .inl hh, .inl hb3, rfl, hz.symm⟩, ?_⟩
      unfold MrkAt markD at az
      cases az with
      | tup hp hd =>
        obtain ⟨x1, r1, rfl, e1, c1⟩ := dpAll_cons hd
        obtain rfl := dp_int e1
        obtain ⟨x2, r2, rfl, e2, c2⟩ := dpAll_cons c1
        obtain rfl := dp_int e2
        obtain ⟨x3, r3, rfl, e3, c3⟩ := dpAll_cons c2
        obtain ⟨x4, r4, rfl, e4, c4⟩ := dpAll_cons c3
        obtain rfl := dpAll_nil c4
        refine ⟨_, rfl, rfl, _, rfl, ?_⟩
        refine chooseF rfl ?_
        rename_i p
        have et : told4 st hh = if m.c = 0 then m.td else .tuple [.int m.s, .int m.c, m.an] := by unfold told4; rw [e0]
        by_cases c : m.c = 0
        · refine ⟨_, rfl, p, _, _, _, rfl, rfl, hp, atI_nat (j := 1) rfl, rfl, _, rfl, ?_⟩
          refine chooseT (decide_eq_true (by rw [c])) ?_
          refine ⟨_, rfl, p, _, _, _, rfl, rfl, hp, atI_nat (j := 3) rfl, rfl, _, rfl, ?_⟩
          by_cases n : x4 = .non
          · refine chooseT (decide_eq_true n) ?_
            refine q .non H (Same.refl _) ?_
            rw [et, if_pos c]
            rw [n] at e4; exact e4
          · refine chooseF (decide_eq_false n) ?_
            refine ⟨_, rfl, p, _, _, _, rfl, rfl, hp, atI_nat (j := 1) rfl, rfl, _, rfl, ?_⟩
            refine chooseT (decide_eq_true (by rw [c])) ?_
            refine ⟨_, rfl, p, _, _, _, rfl, rfl, hp, atI_nat (j := 3) rfl, ?_⟩
            refine q x4 H (Same.refl _) ?_
            rw [et, if_pos c]; exact e4
        · have cz : ¬ V.int m.c = V.int 0 := fun e => c (by injection e)
          refine ⟨_, rfl, p, _, _, _, rfl, rfl, hp, atI_nat (j := 1) rfl, rfl, _, rfl, ?_⟩
          refine chooseF (decide_eq_false cz) ?_
          refine chooseF rfl ?_
          refine ⟨_, rfl, p, _, _, _, rfl, rfl, hp, atI_nat (j := 1) rfl, rfl, _, rfl, ?_⟩
          refine chooseF (decide_eq_false cz) ?_
          refine ⟨_, rfl, _, rfl, p, _, rfl, hp, fun p2 H2 s2 h2 => ?_⟩
          refine q (.ref p2) H2 s2 ?_
          rw [et, if_neg c]
          have e3' : cutV [V.int m.s, V.int m.c, x3, x4] Option.none (some 3) = [V.int m.s, V.int m.c, x3] := cut_take (xs := [V.int m.s, V.int m.c, x3, x4]) (n := 3) (by show 3 ≤ 4; decide)
          rw [e3'] at h2
          exact .tup h2 (.cons (.int _) (.cons (.int _) (.cons (dp_same s2 _ _ e3) .nil)))
end
end Sg

set_option Elab.async false
set_option linter.all false
set_option maxRecDepth 100000
set_option maxHeartbeats 4000000
namespace Sg
open PySem PySem.Spec PyProof.Rows L2
/-! ### whether a step may be, as the law draws it -/
theorem lc_hosts {K : PySem.W.Frag} {σ : L2.St} {H1 : Hp} {D r : Addr} {rs : List (Int × Int)} {jx : Nat} {Qd : Hp → Prop} (hr : RegsAt K H1 r rs) (hD : H1 D = none) (hl : rs.length ≤ 1000) (hjx : jx < σ.length) (hd : ∀ H', Same H1 H' → H' D = some (.lst (rs.map fun p => V.int p.1)) → Qd H') :
    ∃ W : Nat → Nat → Hp → Prop, (∃ m, W 0 m (upd H1 D (.lst []))) ∧ ∀ i m H, W i m H →
      ((Itt K r).stop i H ∧ Qd H) ∨ ((Itt K r).go i H ∧ ∃ Nx : Hp → Prop, (∀ H', Nx H' → ∃ m', m' < m ∧ W (i + 1) m' H') ∧ ∀ x H', (Itt K r).yld i H x H' → gName jx x (wipe σ [jx]) H' fun σ2 H2 => wipe σ2 [jx] = wipe σ [jx] ∧ tYes σ2 H2 fun b H3 =>
        if b = true then (tOp (rIxT K) (tVar jx) (tC (.int 0))) σ2 H3 fun y H4 => ∃ acc, H4 D = some (.lst acc) ∧ acc.length < sizeLine ∧ Nx (upd H4 D (.lst (acc ++ [y]))) else Nx H3) := by
  obtain ⟨ps, hp, pr⟩ := hr
  have pl := Paired.length pr
  refine lc_tup (K := K) (a := r) (xs := ps.map V.ref) (fun i H' => Same H1 H' ∧ H' D = some (.lst ((rs.take i).map fun p => V.int p.1))) ⟨same_new hD, upd_same⟩ (fun i H' _ p => SqT_same p.1 hp) ?_ ?_
  · rintro i x H' hi ⟨sm, hDi⟩
    obtain ⟨p, hpi, rfl⟩ := map_get hi
    obtain ⟨q, hq, e⟩ := paired_at pr hpi
    have il := (List.getElem?_eq_some_iff.mp hq).1
    refine ⟨?_, ?_⟩
    · show ((σ.set jx none).set jx (some (V.ref p))).set jx none = σ.set jx none
      rw [List.set_set, List.set_set]
    · refine yesIte ?_
      refine ⟨V.ref p, by rw [List.getElem?_set_self (by rw [wipe_length]; exact hjx)], p, _, _, _, rfl, rfl, SqT.of (sm _ _ e), atI_nat (j := 0) rfl, _, hDi, small1000 (by rw [List.length_map, List.length_take]; omega), fun b o e' => ?_, ?_⟩
      · have : b ≠ D := fun z => by rw [z, hD] at e'; cases e'
        rw [upd_ne this]; exact sm _ _ e'
      · rw [upd_same, List.take_add_one, hq]; simp
  · rintro H' ⟨sm, hDn⟩
    rw [List.length_map, pl, List.take_length] at hDn
    exact hd H' sm hDn
theorem ints_flat {rs : List (Int × Int)} : (rs.map fun p => V.int p.1).all flatV = true := by
  rw [List.all_map]; exact List.all_eq_true.mpr fun _ _ => rfl
def spLSure (K : PySem.W.Frag) : Sp := fun vs H Q _ => ∃ (k : Str) (w : Addr) (st : Sta) (h n p : Int), vs = [.str k, .ref w, .int h, .int n, .int p] ∧ StAt K H w st ∧ StG 900 st ∧ ∀ b H', Same H H' → (b = true → (lookI st.sp n = none ∧ (k = "make" ∨ k = "mark")) ∨ ((∃ s, lookI st.sp n = some s) ∧ k ≠ "make" ∧ k ≠ "reserve" ∧ k ≠ "preempt")) → Q (.bl b) H'
section
variable {P : Program} {wd : World} {K : PySem.W.Frag} {mg : Str → Option Value} {base : Heap} {f : Addr} {fd : FuncData}
theorem scLSure : FnScope ["kind", "world", "host", "namespace", "place", "size", "cells", "fence", "row"] ["kind", "world", "host", "namespace", "place"] (defScope sLSure) := ⟨rfl, rfl, rfl, by decide +kernel, rfl, by decide +kernel, by decide +kernel⟩
theorem ok_lsure (F : Fun K "_law_sure" "_law_sure" sLSure f fd) : FnOk P wd K mg base CX0 1 f fd ["kind","world","host","namespace","place"] (spLSure K) := by
  refine F.ok scLSure (fun vs H Q E h => ?_) (fun cdv A outer s H vs Q E hr h => ?_)
  · obtain ⟨k, w, st, hh, n, p, rfl, _⟩ := h
    rfl
  · obtain ⟨k, w, st, hh, n, pl, rfl, SA, G, q⟩ := h
    refine ⟨_, (pss_cons (ps_if (pt_cmp (pc_dnotin (hu_of hr) (pv 3) (pe_dget (hu_of hr) (pv 1) pe_str (fun _ _ => rfl))))
      (pss_one (ps_ret (pe_or (pe_cmpR op_eq (pv 0) pe_str (nomark _)) (pe_one (pe_cmpR op_eq (pv 0) pe_str (nomark _)))))) pss_nil)
      (pss_cons (ps_asg (pe_dget (hu_of hr) (pe_dget (hu_of hr) (pv 1) pe_str (fun _ _ => rfl)) (pv 3) (fun _ _ => rfl)) (pg_tup (by rfl) (pgs_cons (pg_name (i := 5) scLSure.nd rfl (Or.inl rfl)) (pgs_cons (pg_name (i := 6) scLSure.nd rfl (Or.inl rfl)) (pgs_cons (pg_name (i := 7) scLSure.nd rfl (Or.inl rfl)) L2.pgs_nil)))))
      (pss_cons (ps_if (pt_cmpR op_eq (pv 0) pe_str (nomark _))
      (pss_one (ps_ret (pe_cmp (pc_din (hu_of hr) (pv 4) (pv 6)) rfl))) pss_nil)
      (pss_cons (ps_if (pt_cmpR op_eq (pv 0) pe_str (nomark _))
      (pss_one (ps_ret (pe_cmpR op_notN (pe_ix ix_tup (pv 7) pe_int (fun _ _ => rfl)) pe_non (nomark _)))) pss_nil)
      (pss_cons (ps_if (pt_cmpR op_eq (pv 0) pe_str (nomark _))
      (pss_one (ps_ret (pe_cmpR op_in_seq (pv 2) (pe_lc (own := [("row", 8)]) (g := gName 8) (tt := tYes) (te := tOp (rIxT K) (tVar 8) (tC (.int 0))) (by rfl) scLSure.nd (pi_tup (pe_ix ix_tup (pv 7) pe_int (fun _ _ => rfl))) (blkOk_by (own := [("row", 8)]) (N := ["kind", "world", "host", "namespace", "place", "size", "cells", "fence", "row"]) (sc := defScope sLSure) (by decide +kernel)) (fun _ _ _ _ _ => pg_name (i := 8) scLSure.nd rfl (Or.inl rfl)) (fun _ _ _ _ _ => pts_nil) (fun _ _ _ _ _ => by exact (pe_ix ix_tup (pv 8) pe_int (fun _ _ => rfl)))) (by rfl)))) pss_nil)
      (pss_cons (ps_if (PW.pt (pw_or (pt_cmpR op_eq (pv 0) pe_str (nomark _)) (pw_or (pt_cmpR op_eq (pv 0) pe_str (nomark _)) (pw_or1 (pt_cmpR op_eq (pv 0) pe_str (nomark _))))))
      (pss_one (ps_ret pe_bl)) pss_nil)
      (pss_one (ps_ret pe_bl)))))))), ?_⟩
    obtain ⟨b1, b2, b3, ha, t1, t2, t3⟩ := id SA
    obtain ⟨kvs1, hk1, pr1, nd1⟩ := id t1
    rcases pr_look (R := SpcAt K H) eI_inj (k := n) pr1 with ⟨l0, hz⟩ | ⟨sp, z, l0, hz, az⟩
    · refine ⟨_, rfl, _, rfl, w, .ref b1, rfl, .inl ⟨_, .inr "spaces", .inl ha, rfl, rfl⟩, b1, none, rfl, .inl ⟨_, .inl n, .inl hk1, rfl, hz.symm⟩, _, rfl, chooseT rfl ?_⟩
      refine ⟨_, rfl, rfl, _, rfl, ?_⟩
      by_cases c : k = "make"
      · exact chooseT (decide_eq_true (by rw [c])) (q _ H (Same.refl _) fun _ => .inl ⟨l0, .inl c⟩)
      · refine chooseF (str_eqF c) ?_
        refine ⟨_, rfl, rfl, q _ H (Same.refl _) fun e => ?_⟩
        have := of_decide_eq_true e
        cases this; exact .inl ⟨l0, .inr rfl⟩
    · refine ⟨_, rfl, _, rfl, w, .ref b1, rfl, .inl ⟨_, .inr "spaces", .inl ha, rfl, rfl⟩, b1, some z, rfl, .inl ⟨_, .inl n, .inl hk1, rfl, hz.symm⟩, _, rfl, chooseF rfl ?_⟩
      obtain ⟨p, cc, fv, rfl, hp, ⟨kc, hcc, prc, ndc⟩, ⟨fa, fr, fhv, rfl, f1, f2, f4⟩⟩ := az
      have rgl : sp.rg.length ≤ 900 := (G.rg _ (look_mem l0)).2
      refine ⟨_, rfl, w, .ref b1, rfl, .inl ⟨_, .inr "spaces", .inl ha, rfl, rfl⟩, _, rfl, b1, .ref p, rfl, .inl ⟨_, .inl n, .inl hk1, rfl, hz.symm⟩, p, _, rfl, hp, rfl, _, _, rfl, _, _, rfl, _, _, rfl, rfl, ?_⟩
      refine ⟨_, rfl, rfl, _, rfl, ?_⟩
      by_cases c1 : k = "trim"
      · refine chooseT (decide_eq_true (by rw [c1])) ?_
        exact ⟨_, rfl, _, rfl, cc, _, rfl, .inl ⟨_, .inl pl, .inl hcc, rfl, rfl⟩, q _ H (Same.refl _) fun _ => .inr ⟨⟨_, l0⟩, by rw [c1]; decide +kernel, by rw [c1]; decide +kernel, by rw [c1]; decide +kernel⟩⟩
      refine chooseF (str_eqF c1) ?_
      refine ⟨_, rfl, rfl, _, rfl, ?_⟩
      by_cases c2 : k = "release"
      · refine chooseT (decide_eq_true (by rw [c2])) ?_
        exact ⟨_, rfl, fa, _, _, _, rfl, rfl, f1, atI_nat (j := 1) rfl, rfl, q _ H (Same.refl _) fun _ => .inr ⟨⟨_, l0⟩, by rw [c2]; decide +kernel, by rw [c2]; decide +kernel, by rw [c2]; decide +kernel⟩⟩
      refine chooseF (str_eqF c2) ?_
      refine ⟨_, rfl, rfl, _, rfl, ?_⟩
      by_cases c3 : k = "leave"
      · refine chooseT (decide_eq_true (by rw [c3])) ?_
        refine ⟨_, rfl, _, rfl, fa, _, _, _, rfl, rfl, f1, atI_nat (j := 0) rfl, fr, rfl, ⟨_, f2.choose_spec.1⟩, fun D hD => ?_⟩
        refine lc_hosts f2 hD (by omega) (show 8 < 9 by decide) fun H' sm hDl => ?_
        exact ⟨D, _, rfl, .inl (SqL.of hDl), rfl, ints_flat, q _ H' sm fun _ => .inr ⟨⟨_, l0⟩, by rw [c3]; decide +kernel, by rw [c3]; decide +kernel, by rw [c3]; decide +kernel⟩⟩
      refine chooseF (str_eqF c3) ?_
      refine ⟨_, rfl, rfl, _, rfl, ?_⟩
      by_cases c4 : k = "make"
      · refine chooseT (decide_eq_true (by rw [c4])) ?_
        exact q _ H (Same.refl _) fun e => nomatch e
      refine chooseF (str_eqF c4) ?_
      refine ⟨_, rfl, rfl, _, rfl, ?_⟩
      by_cases c5 : k = "reserve"
      · refine chooseT (decide_eq_true (by rw [c5])) ?_
        exact q _ H (Same.refl _) fun e => nomatch e
      refine chooseF (str_eqF c5) ?_
      refine ⟨_, rfl, rfl, _, rfl, ?_⟩
      by_cases c6 : k = "preempt"
      · refine chooseT (decide_eq_true (by rw [c6])) ?_
        exact q _ H (Same.refl _) fun e => nomatch e
      · refine chooseF (str_eqF c6) ?_
        exact q _ H (Same.refl _) fun _ => .inr ⟨⟨_, l0⟩, c4, c5, c6⟩
end
end Sg

set_option Elab.async false
set_option linter.all false
set_option maxRecDepth 100000
set_option maxHeartbeats 4000000
namespace Sg
open PySem PySem.Spec PyProof.Rows L2
theorem ints_dp {K : PySem.W.Frag} {H : Hp} : ∀ {l : List Int}, DpAll K H (l.map V.int) (l.map PyData.int)
  | [] => .nil
  | x :: l => .cons (.int x) ints_dp
theorem ints_lay : ∀ {l : List Int}, PyData.canLayAll0 (l.map PyData.int) = true ∧ PyData.depthAll (l.map PyData.int) = 0
  | [] => ⟨by simp [PyData.canLayAll0], by simp [PyData.depthAll]⟩
  | x :: l => by
    obtain ⟨a, b⟩ := ints_lay (l := l)
    exact ⟨by simp [PyData.canLayAll0, PyData.canLay0, a], by simp [PyData.depthAll, PyData.depth, b]⟩
theorem ints_sh {l : List Int} : SeqAt.shaped (.list (l.map PyData.int)) = true := shaped_list ints_lay.1 (by rw [ints_lay.2]; decide)
theorem ints_nil {l : List Int} : PyData.eqv (.list (l.map PyData.int)) (.list []) = l.isEmpty := by
  cases l with
  | nil => simp [PyData.eqv, PyData.eqvAll]
  | cons => simp [PyData.eqv, PyData.eqvAll]
/-! ### a step in a space that is not there -/
def BdN (M : Int) : Bd → Prop
  | .write n p v => n.natAbs ≤ M ∧ p.natAbs ≤ M ∧ v.natAbs ≤ M
  | .trim n p => n.natAbs ≤ M ∧ p.natAbs ≤ M
  | .make n z => n.natAbs ≤ M ∧ z.natAbs ≤ M
  | .remove n => n.natAbs ≤ M
  | .snap n => n.natAbs ≤ M
  | .drop n m => n.natAbs ≤ M ∧ m.natAbs ≤ M
  | .register n => n.natAbs ≤ M
  | .leave n _ => n.natAbs ≤ M
  | .reserve n w => n.natAbs ≤ M ∧ w ∈ (["write", "alone"] : List Str)
  | .release n => n.natAbs ≤ M
  | .preempt n v w => n.natAbs ≤ M ∧ v.natAbs ≤ M ∧ ∀ x, w = some x → x ∈ (["write", "alone"] : List Str)
  | .mark _ => True
def IsStep (K : PySem.W.Frag) (st : Sta) (M : Int) (H : Hp) (v : V) : Prop := ∃ stp h b, v = .ref stp ∧ 0 ≤ h ∧ h < 4 ∧ BdN M b ∧ (∀ d, b = .mark d → d = told4 st h) ∧ ∀ o, StepAt K H stp ⟨o, h, sessN st h b, cntN st h b, b⟩
def spLStray (K : PySem.W.Frag) : Sp := fun vs H Q _ => ∃ (c : Int) (w : Addr) (st : Sta) (o : Int), vs = [.int c, .ref w, .int o] ∧ StAt K H w st ∧ 0 ≤ o ∧ o ≤ 1000 ∧ ∀ v H', Same H H' → (v = .non ∨ IsStep K st 1000 H' v) → Q v H'
section
variable {P : Program} {wd : World} {K : PySem.W.Frag} {mg : Str → Option Value} {base : Heap} {f fD fN : Addr} {fd fdD fdN : FuncData}
/-- (kind, fields) made anew -/
def P2 (H : Hp) (p : Addr) (k : Str) (ys : List V) : Prop := ∃ f, H p = some (.tup [.str k, .ref f]) ∧ H f = some (.tup ys)
theorem P2.same {H H' : Hp} {p : Addr} {k : Str} {ys : List V} (h : P2 H p k ys) (s : Same H H') : P2 H' p k ys := by
  obtain ⟨f, a, b⟩ := h
  exact ⟨f, s _ _ a, s _ _ b⟩
theorem nxt_e {D : Ends} {σ : L2.St} {H : Hp} (h : D.nx σ H) : tNext D σ H := h
theorem asg_lst {ta : TA} {g : TG} {r : TS} {D : Ends} {σ : L2.St} {H : Hp} (h : tLst ta σ H fun x H1 => g x σ H1 fun σ' H' => r D σ' H') : tSeq (tAsg (tLst ta) g) r D σ H := h
theorem lst_e {ta : TA} {σ : L2.St} {H : Hp} {Q : VK} (h : ta σ H fun vs H1 => vs.length ≤ sizeLine ∧ ∀ p, H1 p = none → Q (.ref p) (upd H1 p (.lst vs))) : tLst ta σ H Q := h
theorem cons_e {te : TE} {t : TA} {σ : L2.St} {H : Hp} {Q : List V → Hp → Prop} (h : te σ H fun x H1 => t σ H1 fun xs H2 => Q (x :: xs) H2) : tCons te t σ H Q := h
theorem step_te {σ : L2.St} {H : Hp} {Q : VK} {k : Str} {ta : TA} {ys : List V} (hl : ys.length ≤ 3) (ha : ∀ R : List V → Hp → Prop, R ys H → ta σ H R) (q : ∀ p H', Same H H' → P2 H' p k ys → Q (.ref p) H') : tTup (tCons (tC (.str k)) (tCons (tTup ta) tNil)) σ H Q := by
  refine ha _ ⟨Nat.le_of_lt (small1000 (by omega)), fun f hf => ⟨by show 2 ≤ sizeLine; decide, fun p hp => ?_⟩⟩
  have s1 := same_new (o := .tup ys) hf
  have s2 := same_new (o := .tup [V.str k, V.ref f]) hp
  exact q p _ (s1.trans s2) ⟨f, upd_same, s2 _ _ upd_same⟩
end
end Sg

set_option Elab.async false
set_option linter.all false
set_option maxRecDepth 100000
set_option maxHeartbeats 4000000
namespace Sg
open PySem PySem.Spec PyProof.Rows L2
/-! ### what stays of a state: rows in order, marks that are plain -/
def SrtS (st : Sta) : Prop := ∀ p ∈ st.sp, SrtR p.2.rg
theorem SrtS.within {st : Sta} {e : Eff} {k : Int} {s : Spc} (h : SrtS st) (hs : (k, s) ∈ st.sp) : SrtS (within s e st) := by
  have r1 : SrtR s.rg := h _ hs
  have put : ∀ n (s' : Spc), SrtR s'.rg → SrtS { st with sp := putI st.sp n s' } := fun n s' hs' p hp => by
    rcases mem_put hp with hp | rfl
    · exact h p hp
    · exact hs'
  cases e with
  | gone n o => exact fun p hp => h p (mem_del hp)
  | snap n m b => exact h
  | place n p v => exact put _ _ r1
  | key n x k =>
    cases k with
    | none => exact put _ _ (out_srt r1)
    | some k => exact put _ _ (ins_srt r1)
  | hold n hd => exact put _ _ r1
  | host _ _ _ _ => exact h
  | told _ _ => exact h
  | space _ _ => exact h
theorem srt_space {st : Sta} {m z : Int} (h : SrtS st) : SrtS (afterE (.space m z) st) := fun p hp => by
  rcases mem_put hp with hp | rfl
  · exact h p hp
  · exact List.Pairwise.nil
theorem SrtS.after {st : Sta} {e : Eff} (h : SrtS st) : SrtS (afterE e st) := by
  have inn : ∀ m, spaceOf e = some m → SrtS (afterE e st) := fun m hm => by
    rw [after_in hm]
    cases hl : lookI st.sp m with
    | none => exact h
    | some s => exact h.within (look_mem hl)
  cases e with
  | host hh s c an => exact h
  | told hh d =>
    cases hl : lookI st.mr hh with
    | none => simp only [afterE, hl]; exact h
    | some m => rw [after_told hl]; exact h
  | space m z => exact srt_space h
  | gone m o => exact inn m rfl
  | snap m _ _ => exact inn m rfl
  | place m _ _ => exact inn m rfl
  | key m _ _ => exact inn m rfl
  | hold m _ => exact inn m rfl
theorem SrtS.afters : ∀ {es : List Eff} {st : Sta}, SrtS st → SrtS (es.foldl (fun s e => afterE e s) st)
  | [], _, h => h
  | e :: es, _, h => SrtS.afters (es := es) (h.after (e := e))
theorem SrtS.record {st : Sta} {r : Rc} (h : SrtS st) : SrtS (afterR st r) := SrtS.afters (es := effsR r) (st := { st with o := r.o }) h
/-- a mark's data: plain, and not deep -/
structure MrkG (m : Mrk) : Prop where
  al : m.an.canLay0 = true
  ad : m.an.depth ≤ 1
  tl : m.td.canLay0 = true
  td : m.td.depth ≤ 2
theorem MrkG.ok {m : Mrk} (h : MrkG m) : MrkOk m := by
  refine ⟨by simp [markD, PyData.canLay0, PyData.canLayAll0, h.al, h.tl], ?_⟩
  have := h.ad; have := h.td
  simp only [markD, PyData.depth, PyData.depthAll]; omega
def MrkS (st : Sta) : Prop := ∀ p ∈ st.mr, MrkG p.2
theorem answ_g {k : Str} {o : Int} : (answD k o).canLay0 = true ∧ (answD k o).depth ≤ 1 := by
  have ok : PyData.strOk ("ok" : Str) = true := by decide +kernel
  unfold answD
  split
  · exact ⟨by simp [PyData.canLay0], by simp [PyData.depth]⟩
  · split
    · exact ⟨by simp [PyData.canLay0, PyData.canLayAll0, ok], by simp [PyData.depth, PyData.depthAll]⟩
    · exact ⟨by simp [PyData.canLay0, PyData.canLayAll0, ok], by simp [PyData.depth, PyData.depthAll]⟩
theorem toldOf_g {st : Sta} {h : Int} (g : MrkS st) : (toldOf st h).canLay0 = true ∧ (toldOf st h).depth ≤ 2 := by
  unfold toldOf
  cases e : lookI st.mr h with
  | none => exact ⟨by simp [PyData.canLay0], by simp [PyData.depth]⟩
  | some m => exact ⟨(g _ (look_mem e)).tl, (g _ (look_mem e)).td⟩
theorem told4_g {st : Sta} {h : Int} (g : MrkS st) : (told4 st h).canLay0 = true ∧ (told4 st h).depth ≤ 2 := by
  unfold told4
  cases e : lookI st.mr h with
  | none => exact ⟨by simp [PyData.canLay0], by simp [PyData.depth]⟩
  | some m =>
    have gm := g _ (look_mem e)
    by_cases c : m.c = 0
    · simp only [if_pos c]; exact ⟨gm.tl, gm.td⟩
    · simp only [if_neg c]
      refine ⟨by simp [PyData.canLay0, PyData.canLayAll0, gm.al], ?_⟩
      have h1 : m.an.depth ≤ 1 := gm.ad
      simp only [PyData.depth, PyData.depthAll]; omega
/-- the marks behind a record: as law_eq says, one mark alone is put -/
theorem MrkS.record {st : Sta} {r : Rc} (g : MrkS st) (hm : ∀ d, r.b = .mark d → d.canLay0 = true ∧ d.depth ≤ 2) : MrkS (afterR st r) := by
  rw [law_eq]
  intro p hp
  rcases mem_put hp with hp | rfl
  · exact g p hp
  · have a := answ_g (k := kindS r.b) (o := r.o)
    have t : (toldL st r).canLay0 = true ∧ (toldL st r).depth ≤ 2 := by
      unfold toldL
      split
      · rename_i d e; exact hm d e
      · exact toldOf_g g
    exact ⟨a.1, a.2, t.1, t.2⟩
theorem bd_ok {M : Int} {b : Bd} (h : BdN M b) : bdOk b := by
  have two : ∀ x ∈ (["write", "alone"] : List Str), PyData.strOk x = true := by decide +kernel
  cases b with
  | reserve n w => exact two w h.2
  | preempt n v w =>
    cases w with
    | none => exact True.intro
    | some w => exact two w (h.2.2 w rfl)
  | _ => exact True.intro
end Sg

set_option Elab.async false
set_option linter.all false
set_option maxRecDepth 100000
set_option maxHeartbeats 4000000
namespace Sg
open PySem PySem.Spec PyProof.Rows L2
/-! ### the law's own def, called where no text of a thing is under way -/
structure LawG (P : Program) (w : World) (K : PySem.W.Frag) (mg : Str → Option Value) (base : Heap) (k : Nat) (f : Addr) (fd : FuncData) (ps : List Str) (sp : Sp) : Prop where
  ar : ∀ vs G Q E, sp vs G Q E → vs.length = ps.length
  go : ∀ (B : Around) (fr : List Env) (t : Shared) (G : Hp) (as : Args) (us : List Value) (vs : List V) (Q : VK) (E : XK), B.guards = some [] → Room k B → Env0 P w K mg base B fr t G →
    BindsTo t fd as (ps.zip us) → Vals vs us → sp vs G Q E → codeAny (model P w) B (.call (.ref f) as) (CR CX0 fr P w G t Q E) t
section
variable {P : Program} {w : World} {K : PySem.W.Frag} {mg : Str → Option Value} {base : Heap}
theorem lawG_of {x qual : Str} {st : Stmt} {f : Addr} {fd : FuncData} {N ps : List Str} {k : Nat} {sp : Sp} (F : Fun K x qual st f fd) (S : FnScope N ps (defScope st)) (ar : ∀ vs G Q E, sp vs G Q E → vs.length = ps.length)
    (body : ∀ (cv : Value) (B : Around) (fr : List Env) (t : Shared) (G : Hp) (vs : List V) (Q : VK) (E : XK), (B.deeper (envOfC qual (defScope st) t.heap.objs.size f cv)).guards = some [] → Room k (B.deeper (envOfC qual (defScope st) t.heap.objs.size f cv)) → sp vs G Q E →
      ∃ rd, PSs (cxOf CX0 P w K mg base N qual (defScope st) f cv B fr t G E).nox (defBody st) rd ∧ rd { nx := fun _ G' => Q .non G', rt := Q } (start N vs) G) : LawG P w K mg base (k + 1) f fd ps sp := by
  obtain ⟨o1, o2, v1, v2, v3, a1, cv, v4, sl, rfl, lk, cd⟩ := F.ex
  refine ⟨ar, fun B fr t G as us vs Q E hg hr e0 hb r hsp => ?_⟩
  have kin : K.In t.heap := e0.mod.kin.keeps fun b o e => (e0.bs b o e).1
  have nl : t.heap.NoLimit := e0.mod.nolimit.keeps fun b o e => (e0.bs b o e).1
  have kinds : ∀ z ∈ ps.zip us, (defScope st).names.lookup z.1 = some .local ∨ ((defScope st).names.lookup z.1 = some .cell ∧ ((cellsFrom (t.heap.objs.size + 1) (defScope st).names []).lookup z.1).isSome = true) := by
    rintro ⟨n, v⟩ hz
    have hn := S.par n (List.of_mem_zip hz).1
    exact hn.imp id fun q => ⟨q, PySem.W.cellsFrom_some _ _ _ (.inl q)⟩
  refine codeAny_call_function hr.depth (kin _ _ lk) rfl S.co S.gen rfl (PySem.W.codeRec_of kin cd) (hb _ _ _ _ (wpAny_newFunctionEnv_cells S.kind kinds fun env he t1 x => ?_))
  subst he
  refine ⟨nl.keeps x.toInCall.keep, codeAny_func ?_⟩
  obtain ⟨rd, hrd, q⟩ := body cv B fr t G vs Q E hg (hr.deeper _) hsp
  have I := inv_start (CX := CX0) (E := E) S hr.hd e0 (ar _ _ _ _ hsp) r x
  refine wpAny_mono (hrd.nox.run [] t1 _ G _ I q) (fun fl t2 ht => ?_) fun e t2 ht => ht
  cases fl with
  | ret u => obtain ⟨v, _, G', J, rv, q'⟩ := ht; exact ⟨v, G', J.os, J.bare, J.base, J.hok, rv, q'⟩
  | next => obtain ⟨_, G', J, q'⟩ := ht; exact ⟨V.non, G', J.os, J.bare, J.base, J.hok, rfl, q'⟩
  | brk => obtain ⟨_, _, _, q'⟩ := ht; exact q'.elim
  | cont => obtain ⟨_, _, _, q'⟩ := ht; exact q'.elim
/-- the heap in which the script alone is told -/
def onlyA (K : PySem.W.Frag) (a : Addr) (ob : Obj) (xs : List V) : Hp := fun b => if b = a ∧ K.lookup a = none then some (.frz ob (.lst xs)) else none
theorem onlyA_no {a b : Addr} {ob : Obj} {xs : List V} (h : b ≠ a) : onlyA K a ob xs b = none := if_neg fun z => h z.1
theorem onlyA_cs {a b : Addr} {ob : Obj} {xs : List V} : onlyA K a ob xs b = none ∨ (b = a ∧ K.lookup a = none ∧ onlyA K a ob xs b = some (.frz ob (.lst xs))) := by
  by_cases h : b = a ∧ K.lookup a = none
  · exact .inr ⟨h.1, h.2, if_pos h⟩
  · exact .inl (if_neg h)
theorem lawG_call {mb : Str → Option Value} {k : Nat} {fa a : Addr} {fd : FuncData} {x : Str} {sp : Sp} {t : Shared} {vs : List Value} {ns : List Int} (kin : K.In t.heap) (nsG : t.heap.Ns mainGlobals mg) (nsB : t.heap.Ns builtinsNs mb)
    (bb : ∀ z : Str, z ≠ "__name__" → mb z = bootBuiltins z) (nl : t.heap.NoLimit) (g0 : t.gens = #[]) (ha : t.heap.get? a = some { cls := .type "list", data := .seq vs.toArray }) (hi : IntsAre vs ns) (hz : ns.length ≤ sizeLine) (hr : Room k callerA)
    (F : ∀ bs : Heap, K.In bs → bs.Ns mainGlobals mg → LawG P w K mg bs k fa fd [x] sp) (bd : ∀ (s : Shared) (u : Value), BindsTo s fd ⟨[u], []⟩ [(x, u)])
    (hsp : ∀ G : Hp, Only G → SqL K G a (ns.map V.int) → sp [.ref a] G (fun v _ => v = .bl true) fun _ _ _ => False) :
    codeAny (model P w) callerA (.call (.ref fa) ⟨[.ref a], []⟩) (fun r t' => r = .ok (.ret (.bool true)) ∧ OldK t.heap t'.heap ∧ t'.os = t.os ∧ AllBare t'.gens) t := by
  have rv := vals_ints hi
  have nEq : ns.length = vs.length := by have := rv.length; rwa [List.length_map] at this
  let G : Hp := onlyA K a { cls := .type "list", data := .seq vs.toArray } (ns.map V.int)
  have cs : ∀ b, G b = none ∨ (b = a ∧ K.lookup a = none ∧ G b = some (.frz { cls := .type "list", data := .seq vs.toArray } (.lst (ns.map V.int)))) := fun b => onlyA_cs
  have only : Only G := fun b => (cs b).imp id fun z => ⟨_, _, z.2.2⟩
  have sq : SqL K G a (ns.map V.int) := by
    cases hk : K.lookup a with
    | none => exact .inl (.inr ⟨_, if_pos ⟨rfl, hk⟩⟩)
    | some o =>
      have e := kin a o hk
      rw [ha] at e
      cases e
      exact .inr ⟨_, vs.toArray, _, hk, rfl, rfl, rfl, by rw [List.size_toArray, ← nEq]; exact hz, by simpa using rv⟩
  have ok : HOk P w G t.heap := fun b u e => by
    rcases cs b with n | ⟨rfl, _, n⟩
    · rw [n] at e; cases e
    · rw [n] at e; cases e
      exact ⟨ha, by rw [List.length_map]; exact hz, vs, _, rv, ha⟩
  have bs_of : ∀ {b : Addr} {o : Obj}, t.heap.get? b = some o → G b = none → (hidT t.heap G).get? b = some o := fun e n => hidT_get e n
  have nsH : ∀ {b : Addr} {m : Str → Option Value}, t.heap.Ns b m → (hidT t.heap G).Ns b m := by
    rintro b m ⟨o, es, ep, e, d, rest⟩
    refine ⟨o, es, ep, bs_of e ?_, d, rest⟩
    rcases cs b with n | ⟨rfl, _, _⟩
    · exact n
    · rw [ha] at e; cases e; exact absurd d (by intro z; cases z)
  have kinH : K.In (hidT t.heap G) := fun b o e => bs_of (kin b o e) (by
    rcases cs b with n | ⟨rfl, l0, _⟩
    · exact n
    · rw [l0] at e; cases e)
  obtain ⟨mc, l1, l2⟩ := nl
  have e0 : Env0 P w K mg (hidT t.heap G) callerA [] t G :=
    { frames := rfl, mod := ⟨kinH, nsH nsG, ⟨mb, nsH nsB, bb⟩, ⟨mc, nsH l1, l2⟩⟩, bs := fun b o e => of_hidT e, bsz := Nat.le_of_eq (hidT_size _ _), funs := trivial, frf := fun b hb => (List.not_mem_nil (show b ∈ ([] : List Addr) from hb)).elim, hok := ok, bare := .of_eq g0 }
  refine codeAny_mono ((F _ kinH (nsH nsG)).go callerA [] t G ⟨[.ref a], []⟩ [.ref a] [.ref a] _ _ rfl hr e0 (bd t (.ref a)) (.cons rfl .nil) (hsp G only sq)) fun r t' h => ?_
  match r, h with
  | .error e, h => exact (show False from h).elim
  | .ok .next, h => exact (show False from h).elim
  | .ok .brk, h => exact (show False from h).elim
  | .ok .cont, h => exact (show False from h).elim
  | .ok (.ret u), ⟨v, G', os, bare, un, ok', r', q⟩ =>
    obtain rfl : v = .bl true := q
    obtain rfl : u = Value.bool true := r'
    refine ⟨rfl, OldK.of_keep fun b o e => ?_, os, bare⟩
    rcases cs b with n | ⟨rfl, _, n⟩
    · exact un.keep b o e n (fun z => List.not_mem_nil (show b ∈ ([] : List Addr) from z)) (by simp)
    · obtain ⟨e2, _⟩ := ok' b _ (un.frzs b _ _ n)
      rw [ha] at e; cases e; exact e2
theorem walkG {l : PySem.W.OpenLaw} {n k : Nat} {q : Program} {loose : List Str} {XP : (Str → Option Value) → Heap → Prop} {YP : World → Heap → Prop} {d : DefRec} {KK : Params → PySem.W.Frag} {sp : PySem.W.Frag → Sp} {x : Str} (hn : l.most = some n) (h2 : n ≤ sizeLine) (hdf : d.params.defaults = []) (hr : Room k callerA)
    (hY : ∀ (wd : World) (h : Heap), YP wd h → (KK wd.params).In h)
    (F : ∀ (wd : World) (mg : Str → Option Value) (fa : Addr) (h : Heap), (KK wd.params).In h → h.Ns mainGlobals mg → mg d.name = some (.ref fa) →
      ∃ fd : FuncData, (∀ (s : Shared) (u : Value), BindsTo s fd ⟨[u], []⟩ [(x, u)]) ∧ ∀ bs : Heap, (KK wd.params).In bs → bs.Ns mainGlobals mg → LawG l.prog wd (KK wd.params) mg bs k fa fd [x] (sp (KK wd.params)))
    (hsp : ∀ (K : PySem.W.Frag) (G : Hp) (a : Addr) (ns : List Int), ns.length ≤ n → Only G → SqL K G a (ns.map V.int) → sp K [.ref a] G (fun v _ => v = .bl true) fun _ _ _ => False) :
    PySem.W.WalkO q loose XP YP l.row.toRowW d [] (fun f vs => PySem.call f vs) := by
  refine Att.attach_call hn hdf fun wd _ t mg mb fa _ _ _ _ a vs ns G0 Y _ _ _ hmg hobj hints hlen hg => ?_
  obtain ⟨fd, b, hF⟩ := F wd mg fa _ (hY wd _ Y) G0.T.g hmg
  exact lawG_call (hY wd _ Y) G0.T.g G0.T.b G0.T.builtins G0.T.nolimit hg hobj hints (Nat.le_trans hlen h2) hr hF b fun G hO hS => hsp _ G a ns hlen hO hS
end
end Sg

set_option Elab.async false
set_option linter.all false
set_option maxRecDepth 100000
set_option maxHeartbeats 4000000
namespace Sg
open PySem PySem.Spec PyProof.Rows L2
/-! ### the text of a state -/
theorem pairs_mem {α β : Type} {F G : α → β → Prop} : ∀ {l : List α} {m : List β}, (∀ a b, b ∈ m → F a b → G a b) → Paired F l m → Paired G l m
  | _, _, _, .nil => .nil
  | _, _, f, .cons r t => .cons (f _ _ List.mem_cons_self r) (pairs_mem (fun a b hb => f a b (List.mem_cons_of_mem _ hb)) t)
/-- what a value is read as, and sys.modules is not met on the way -/
def RdV (h : Heap) (v : V) (d : PyData) : Prop := ∀ u, RelV v u → ∃ as, Reads h u d as ∧ sysModules ∉ as
def keyDs : List Key → List PyData := List.map keyD
section
variable {X : Cx} {pins : List (Addr × Obj)} {σ : L2.St} {H : Hp} {s : Shared}
mutual
theorem flat_rd (I : L2.Inv X pins σ H s) : ∀ (d : PyData) (v : V) (u : Value), tupO d = true → Dp X.K H v d → RelV v u → Reads s.heap u d []
  | .none, _, _, _, h, r => by cases h; cases r; exact .none
  | .bool b, _, _, _, h, r => by cases h; cases r; exact .bool b
  | .int i, _, _, _, h, r => by cases h; obtain ⟨t, rfl⟩ := r; exact .int i t
  | .str x, _, _, _, h, r => by cases h; obtain ⟨t, rfl⟩ := r; exact .str x t
  | .tuple ds, _, _, f, h, r => by
    cases h with
    | tup hs ha =>
      cases r
      obtain ⟨its, rv, ⟨o, ho, hc, n, hd⟩, _⟩ := I.tuple hs
      exact .tuple ho hc hd (flat_rds I ds _ its (by simpa [tupO] using f) ha rv)
  | .list _, _, _, f, _, _ => by simp [tupO] at f
  | .dict _, _, _, f, _, _ => by simp [tupO] at f
theorem flat_rds (I : L2.Inv X pins σ H s) : ∀ (ds : List PyData) (vs : List V) (us : List Value), tupOs ds = true → DpAll X.K H vs ds → Vals vs us → ReadsAll s.heap us ds []
  | [], _, _, _, h, r => by cases h; cases r; exact .nil
  | d :: ds, _, _, f, h, r => by
    have f' : tupO d = true ∧ tupOs ds = true := by simpa [tupOs] using f
    cases h with
    | cons h1 h2 => cases r with
      | cons r1 r2 => exact ReadsAll.cons (as := []) (bs := []) (flat_rd I d _ _ f'.1 h1 r1) (flat_rds I ds _ _ f'.2 h2 r2)
end
theorem rd_flat (I : L2.Inv X pins σ H s) {v : V} {d : PyData} (h : Dp X.K H v d) (f : tupO d = true) : RdV s.heap v d := fun u r => ⟨[], flat_rd I d v u f h r, List.not_mem_nil⟩
theorem rds_of {h : Heap} : ∀ {xs : List V} {ds : List PyData} {us : List Value}, Paired (RdV h) xs ds → Vals xs us → ∃ as, ReadsAll h us ds as ∧ sysModules ∉ as
  | _, _, _, .nil, .nil => ⟨[], .nil, List.not_mem_nil⟩
  | _, _, _, .cons p ps, .cons r rs => by
    obtain ⟨as, a1, a2⟩ := p _ r
    obtain ⟨bs, b1, b2⟩ := rds_of ps rs
    exact ⟨_, .cons a1 b1, fun z => (List.mem_append.mp z).elim a2 b2⟩
theorem rd_tup (I : L2.Inv X pins σ H s) {p : Addr} {xs : List V} {ds : List PyData} (h : SqT X.K H p xs) (hp : Paired (RdV s.heap) xs ds) : RdV s.heap (.ref p) (.tuple ds) := fun u r => by
  obtain rfl : u = Value.ref p := r
  obtain ⟨its, rv, ⟨o, ho, hc, n, hd⟩, _⟩ := I.tuple h
  obtain ⟨as, a1, a2⟩ := rds_of hp rv
  exact ⟨as, .tuple ho hc hd a1, a2⟩
theorem key_rd {h : Heap} {k : Key} {u : Value} (e : keyIs k u = true) : Reads h u (keyD k) [] := by
  rcases keyIs_shape e with ⟨i, t, rfl, rfl⟩ | ⟨x, t, rfl, rfl⟩
  · exact .int i t
  · exact .str x t
/-- the entries of a dict with whole numbers and texts as keys -/
theorem pairs_rd {P : Program} {w : World} {h : Heap} {κ : Type} : ∀ {es : List DictEntry} {vs : List (Key × Value)} {kvs : List (Key × V)} {l : List κ} {kd : κ → Key} {f : κ → PyData}, Pairs (mixKind P w) es vs → KV kvs vs → Paired (fun (p : Key × V) (q : κ) => p.1 = kd q ∧ RdV h p.2 (f q)) kvs l →
    ReadsAll h (es.map (·.key)) (l.map fun q => keyD (kd q)) [] ∧ ∃ bs, ReadsAll h (es.map (·.val)) (l.map f) bs ∧ sysModules ∉ bs
  | _, _, _, _, _, _, .nil, .nil, .nil => ⟨.nil, [], .nil, List.not_mem_nil⟩
  | _, _, _, _, kd, f, .cons a b t, .cons r rs, .cons p ps => by
    obtain ⟨i1, bs, i2, i3⟩ := pairs_rd t rs ps
    obtain ⟨as, a1, a2⟩ := p.2 _ r.2
    refine ⟨ReadsAll.cons (as := []) (bs := []) ?_ i1, _, ReadsAll.cons (as := as) ?_ i2, fun z => (List.mem_append.mp z).elim a2 i3⟩
    · have := key_rd (h := h) a
      rw [← r.1, p.1] at this; exact this
    · rw [← b] at a1; exact a1
theorem rd_dK (I : L2.Inv X pins σ H s) {p : Addr} {kvs : List (Key × V)} {κ : Type} {l : List κ} {kd : κ → Key} {f : κ → PyData} (h : H p = some (.dK kvs)) (hp : Paired (fun (p : Key × V) (q : κ) => p.1 = kd q ∧ RdV s.heap p.2 (f q)) kvs l) :
    RdV s.heap (.ref p) (.dict (l.map fun q => (keyD (kd q), f q))) := fun u r => by
  obtain rfl : u = Value.ref p := r
  obtain ⟨_, ne, vs, kv, o, es, ep, h1, h2, h3, _, h5, _⟩ := dk_of I.hok h
  obtain ⟨a1, bs, a2, a3⟩ := pairs_rd (h := s.heap) h5 kv hp
  refine ⟨p :: [] ++ bs, .dict h1 h2.1 h3 ?_ ?_, ?_⟩
  · rw [List.map_map]; exact a1
  · rw [List.map_map]; exact a2
  · intro z
    rcases List.mem_cons.mp z with z | z
    · rw [z] at ne; simp at ne
    · exact a3 z
theorem keys_vals : ∀ {k : List Key} {its : List Value} {h : Heap}, Vals (k.map kV) its → ReadsAll h its (k.map keyD) []
  | [], _, _, .nil => .nil
  | .inl i :: k, _, _, .cons r rs => by
    obtain ⟨t, rfl⟩ := r
    exact ReadsAll.cons (as := []) (bs := []) (.int i t) (keys_vals rs)
  | .inr x :: k, _, _, .cons r rs => by
    obtain ⟨t, rfl⟩ := r
    exact ReadsAll.cons (as := []) (bs := []) (.str x t) (keys_vals rs)
theorem tabs_rd (I : L2.Inv X pins σ H s) {κ : Type} : ∀ {kvs : List (List Key × V)} {xs : List (List Key × Addr × Value)} {l : List κ} {kd : κ → List Key} {f : κ → PyData}, KT H kvs xs → Paired (fun (p : List Key × V) (q : κ) => p.1 = kd q ∧ RdV s.heap p.2 (f q)) kvs l →
    ReadsAll s.heap ((xs.map (entryOfKey (tupleKind (mixKind X.prog X.w)))).map (·.key)) (l.map fun q => topD (kd q)) [] ∧ ∃ bs, ReadsAll s.heap ((xs.map (entryOfKey (tupleKind (mixKind X.prog X.w)))).map (·.val)) (l.map f) bs ∧ sysModules ∉ bs
  | _, _, _, _, _, .nil, .nil => ⟨.nil, [], .nil, List.not_mem_nil⟩
  | _, _, _, kd, f, .cons r rs, .cons p ps => by
    obtain ⟨i1, bs, i2, i3⟩ := tabs_rd I rs ps
    obtain ⟨as, a1, a2⟩ := p.2 _ r.2.2
    refine ⟨ReadsAll.cons (as := []) (bs := []) ?_ i1, _, ReadsAll.cons (as := as) a1 i2, fun z => (List.mem_append.mp z).elim a2 i3⟩
    obtain ⟨its, rv, ⟨o, ho, hc, n, hd⟩, _⟩ := I.tuple (SqT.of (K := X.K) r.2.1)
    have := keys_vals (h := s.heap) rv
    rw [p.1] at this
    exact .tuple ho hc hd this
theorem rd_dT (I : L2.Inv X pins σ H s) {p : Addr} {kvs : List (List Key × V)} {κ : Type} {l : List κ} {kd : κ → List Key} {f : κ → PyData} (h : H p = some (.dT kvs)) (hp : Paired (fun (p : List Key × V) (q : κ) => p.1 = kd q ∧ RdV s.heap p.2 (f q)) kvs l) :
    RdV s.heap (.ref p) (.dict (l.map fun q => (topD (kd q), f q))) := fun u r => by
  obtain rfl : u = Value.ref p := r
  obtain ⟨_, ne, xs, kt, o, es, ep, h1, h2, h3, h4, _, _⟩ := dt_of I.hok h
  obtain ⟨a1, bs, a2, a3⟩ := tabs_rd I kt hp
  refine ⟨p :: [] ++ bs, .dict h1 h2.1 h3 ?_ ?_, ?_⟩
  · rw [List.map_map, h4]; exact a1
  · rw [List.map_map, h4]; exact a2
  · intro z
    rcases List.mem_cons.mp z with z | z
    · rw [z] at ne; simp at ne
    · exact a3 z
/-- a state as one datum -/
def cellsD (cs : Cells) : PyData := .dict (cs.map fun c => (keyD (eI c.1), .int c.2))
def spcD (x : Spc) : PyData := .tuple [.int x.z, cellsD x.cs, fenceD x.rg x.hd]

def stateD (st : Sta) : PyData := .dict ([(("order" : Str), PyData.int st.o), ("spaces", .dict (st.sp.map fun q => (keyD (eI q.1), spcD q.2))), ("snaps", .dict (st.sn.map fun q => (topD (eP q.1), cellsD q.2))), ("marks", .dict (st.mr.map fun q => (keyD (eI q.1), markD q.2)))].map fun q => (keyD (.inr q.1), q.2))
theorem rows_flat : ∀ rs : List (Int × Int), tupOs (rs.map rowD) = true
  | [] => by simp [tupOs]
  | _ :: rs => by simp [tupOs, tupO, rowD, rows_flat rs]
theorem fence_flat {rg : List (Int × Int)} {hd : Option (Int × Str)} : tupO (fenceD rg hd) = true := by
  cases hd <;> simp [fenceD, tupO, tupOs, holdD, rows_flat]
theorem rd_cells (I : L2.Inv X pins σ H s) {c : Addr} {cs : Cells} (h : CellAt X.K H c cs) : RdV s.heap (.ref c) (cellsD cs) := by
  obtain ⟨kvs, hc, pr, _⟩ := h
  exact rd_dK I hc (Paired.imp2 (fun p q z => ⟨z.1, by rw [z.2]; exact rd_flat I (.int _) (by simp [tupO])⟩) pr)
theorem rd_space (I : L2.Inv X pins σ H s) {v : V} {x : Spc} (h : SpcAt X.K H v x) : RdV s.heap v (spcD x) := by
  obtain ⟨a, c, f, rfl, h1, h2, h3⟩ := h
  exact rd_tup I h1 (.cons (rd_flat I (.int _) (by simp [tupO])) (.cons (rd_cells I h2) (.cons (rd_flat I (fence_dp h3) fence_flat) .nil)))
theorem rd_state (I : L2.Inv X pins σ H s) {a : Addr} {st : Sta} (h : StAt X.K H a st) (fm : ∀ p ∈ st.mr, tupO p.2.an = true ∧ tupO p.2.td = true) : RdV s.heap (.ref a) (stateD st) := by
  obtain ⟨b1, b2, b3, ha, ⟨k1, hb1, p1, _⟩, ⟨k2, hb2, p2, _⟩, ⟨k3, hb3, p3, _⟩⟩ := h
  refine rd_dK I ha (.cons ⟨rfl, rd_flat I (.int _) (by simp [tupO])⟩ (.cons ⟨rfl, ?_⟩ (.cons ⟨rfl, ?_⟩ (.cons ⟨rfl, ?_⟩ .nil))))
  · exact rd_dK I hb1 (Paired.imp2 (fun p q z => ⟨z.1, rd_space I z.2⟩) p1)
  · exact rd_dT I hb2 (Paired.imp2 (fun p q z => ⟨z.1, by obtain ⟨c, e, hc⟩ := z.2; rw [e]; exact rd_cells I hc⟩) p2)
  · refine rd_dK I hb3 (pairs_mem (fun p q hq z => ⟨z.1, rd_flat I z.2 ?_⟩) p3)
    have := fm q hq
    simp [markD, tupO, tupOs, this.1, this.2]
end
end Sg

set_option Elab.async false
set_option linter.all false
set_option maxRecDepth 100000
set_option maxHeartbeats 4000000
namespace Sg
open PySem PySem.Spec PyProof.Rows L2
/-! ### how long a text is at most -/
mutual
def costD : PyData → Nat
  | .none => 4
  | .bool _ => 5
  | .int i => (Str.ofString (toString i)).length
  | .str x => (reprText x).length
  | .tuple xs => 3 + costA xs
  | .list xs => (PyData.shown (.list xs)).length
  | .dict kvs => 2 + costK kvs
def costA : List PyData → Nat
  | [] => 0
  | x :: xs => costD x + 2 + costA xs
def costK : List (PyData × PyData) → Nat
  | [] => 0
  | (k, v) :: r => costD k + costD v + 4 + costK r
end
theorem join_len (ts : List Str) : (Str.join ", " ts).length ≤ piled ts := by
  by_cases h : ts = []
  · subst h; exact Nat.zero_le _
  · have := join_length_add ts h; omega
mutual
theorem shown_cost : ∀ d : PyData, (PyData.shown d).length ≤ costD d
  | .none => by simp only [PyData.shown, costD]; decide
  | .bool b => by simp only [PyData.shown, costD]; cases b <;> decide
  | .int i => by simp only [PyData.shown, costD]; exact Nat.le_refl _
  | .str x => by simp only [PyData.shown, costD]; exact Nat.le_refl _
  | .list xs => by simp only [costD]; exact Nat.le_refl _
  | .tuple xs => by
    simp only [PyData.shown, costD]
    have h := shownA_cost xs
    have j := join_len (PyData.shownAll xs)
    unfold tupleText
    rw [strLen_append, strLen_append]
    have e1 : (("(" : String) : Str).length = 1 := rfl
    have e2 : ((if (PyData.shownAll xs).length == 1 then ",)" else ")" : String) : Str).length ≤ 2 := by split <;> decide
    omega
  | .dict kvs => by
    simp only [PyData.shown, costD]
    have h := shownK_cost kvs
    have j := join_len (PyData.shownKv kvs)
    unfold dictText
    rw [strLen_append, strLen_append]
    have e1 : (("{" : String) : Str).length = 1 := rfl
    have e2 : (("}" : String) : Str).length = 1 := rfl
    omega
theorem shownA_cost : ∀ xs : List PyData, piled (PyData.shownAll xs) ≤ costA xs
  | [] => by simp [PyData.shownAll, piled, costA]
  | x :: xs => by
    have h1 := shown_cost x
    have h2 := shownA_cost xs
    simp only [PyData.shownAll, costA]
    unfold piled at h2 ⊢
    simp only [List.map_cons, List.sum_cons]
    omega
theorem shownK_cost : ∀ xs : List (PyData × PyData), piled (PyData.shownKv xs) ≤ costK xs
  | [] => by simp [PyData.shownKv, piled, costK]
  | (k, v) :: xs => by
    have h1 := shown_cost k
    have h3 := shown_cost v
    have h2 := shownK_cost xs
    simp only [PyData.shownKv, costK]
    unfold piled at h2 ⊢
    simp only [List.map_cons, List.sum_cons]
    rw [strLen_append, strLen_append]
    have e1 : ((": " : String) : Str).length = 2 := rfl
    omega
end
theorem costK_le {α : Type} {f : α → PyData × PyData} {n : Nat} : ∀ {l : List α}, (∀ x ∈ l, costD (f x).1 + costD (f x).2 + 4 ≤ n) → costK (l.map f) ≤ l.length * n
  | [], _ => by simp [costK]
  | x :: l, h => by
    have h1 := h x List.mem_cons_self
    have h2 := costK_le (l := l) fun y hy => h y (List.mem_cons_of_mem _ hy)
    rw [List.map_cons, List.length_cons, Nat.succ_mul]
    show costD (f x).1 + costD (f x).2 + 4 + costK (l.map f) ≤ _
    omega
theorem costA_le {α : Type} {f : α → PyData} {n : Nat} : ∀ {l : List α}, (∀ x ∈ l, costD (f x) + 2 ≤ n) → costA (l.map f) ≤ l.length * n
  | [], _ => by simp [costA]
  | x :: l, h => by
    have h1 := h x List.mem_cons_self
    have h2 := costA_le (l := l) fun y hy => h y (List.mem_cons_of_mem _ hy)
    rw [List.map_cons, List.length_cons, Nat.succ_mul]
    show costD (f x) + 2 + costA (l.map f) ≤ _
    omega
theorem int_cost {i : Int} (h : (i.natAbs : Int) ≤ 2000) : costD (.int i) ≤ 5 := by
  simp only [costD]
  rw [PySem.ofString_length]
  exact int_text_length_le10 (k := 4) (by decide) (by omega)
theorem int_show {i : Int} (h : (i.natAbs : Int) ≤ 2000) : PyData.showable (.int i) = true := by
  simp only [PyData.showable, decide_eq_true_eq]
  by_cases z : i.natAbs = 0
  · rw [z]; decide
  · have : i.natAbs.log2 < 11 := (Nat.log2_lt z).mpr (by omega)
    omega
end Sg

set_option Elab.async false
set_option linter.all false
set_option maxRecDepth 100000
set_option maxHeartbeats 4000000
namespace Sg
open PySem PySem.Spec PyProof.Rows L2
/-! ### the numbers of a state -/
def Bn (M i : Int) : Prop := (i.natAbs : Int) ≤ M
def HdN (M : Int) (hd : Option (Int × Str)) : Prop := ∀ h w, hd = some (h, w) → Bn M h ∧ w ∈ (["write", "alone"] : List Str)
def CsN (M : Int) (cs : Cells) : Prop := ∀ c ∈ cs, Bn M c.1 ∧ Bn M c.2
structure SpcN (M : Int) (x : Spc) : Prop where
  z : Bn M x.z
  cs : CsN M x.cs
  rg : CsN M x.rg
  hd : HdN M x.hd
structure NumS (M : Int) (st : Sta) : Prop where
  sp : ∀ p ∈ st.sp, Bn M p.1 ∧ SpcN M p.2
  sn : ∀ p ∈ st.sn, Bn M p.1.1 ∧ Bn M p.1.2 ∧ CsN M p.2
def EffN (M : Int) : Eff → Prop
  | .space n z => Bn M n ∧ Bn M z
  | .snap n m _ => Bn M n ∧ Bn M m
  | .place n p v => Bn M n ∧ Bn M p ∧ ∀ x, v = some x → Bn M x
  | .key n h k => Bn M n ∧ Bn M h ∧ ∀ x, k = some x → Bn M x
  | .hold n hd => Bn M n ∧ HdN M hd
  | _ => True
theorem hd_none {M : Int} : HdN M none := fun _ _ e => nomatch e
theorem effs_n {M o h : Int} {b : Bd} (ho : Bn M o) (hh : Bn M h) (hb : BdN M b) : ∀ e ∈ effsB o h b, EffN M e := by
  have one : ∀ {e e' : Eff}, EffN M e → e' ∈ [e] → EffN M e' := fun h m => by rw [List.mem_singleton.mp m]; exact h
  have two : ∀ {e1 e2 e' : Eff}, EffN M e1 → EffN M e2 → e' ∈ [e1, e2] → EffN M e' := fun h1 h2 m => by
    rcases List.mem_cons.mp m with rfl | m
    · exact h1
    · rw [List.mem_singleton.mp m]; exact h2
  have nn : ∀ x : Int, (none : Option Int) = some x → Bn M x := fun _ e => nomatch e
  intro e he
  cases b with
  | mark d => exact one (e := .told h d) True.intro he
  | make n z => exact one (e := .space n z) hb he
  | remove n => exact one (e := .gone n o) True.intro he
  | write n p v => exact one (e := .place n p (some v)) ⟨hb.1, hb.2.1, fun x e => by cases e; exact hb.2.2⟩ he
  | trim n p => exact one (e := .place n p none) ⟨hb.1, hb.2, nn⟩ he
  | snap n => exact one (e := .snap n o (some o)) ⟨hb, ho⟩ he
  | drop n m => exact one (e := .snap n m none) hb he
  | register n => exact one (e := .key n h (some o)) ⟨hb, hh, fun x e => by cases e; exact ho⟩ he
  | leave n g =>
    cases g with
    | false => exact one (e := .key n h none) ⟨hb, hh, nn⟩ he
    | true => exact two (e1 := .key n h none) (e2 := .hold n none) ⟨hb, hh, nn⟩ ⟨hb, hd_none⟩ he
  | reserve n w => exact one (e := .hold n (some (h, w))) ⟨hb.1, fun x y e => by cases e; exact ⟨hh, hb.2⟩⟩ he
  | release n => exact one (e := .hold n none) ⟨hb, hd_none⟩ he
  | preempt n v w =>
    cases w with
    | none => exact one (e := .key n v none) ⟨hb.1, hb.2.1, nn⟩ he
    | some w => exact two (e1 := .key n v none) (e2 := .hold n (some (h, w))) ⟨hb.1, hb.2.1, nn⟩ ⟨hb.1, fun x y e => by cases e; exact ⟨hh, hb.2.2 w rfl⟩⟩ he
theorem CsN.set {M : Int} {cs : Cells} {k : Int} {v : Option Int} (h : CsN M cs) (hk : Bn M k) (hv : ∀ x, v = some x → Bn M x) : CsN M (setI cs k v) := fun c hc => by
  rcases mem_set' hc with hc | ⟨w, e, rfl⟩
  · exact h c hc
  · exact ⟨hk, hv w e⟩
theorem CsN.out {M : Int} {cs : Cells} {h : Int} (a : CsN M cs) : CsN M (outR cs h) := fun c hc => a c (List.mem_filter.mp hc).1
theorem CsN.ins {M : Int} {cs : Cells} {h k : Int} (a : CsN M cs) (hh : Bn M h) (hk : Bn M k) : CsN M (insR cs h k) := fun c hc => by
  rcases List.mem_append.mp (ins_perm.mem_iff.mp hc) with hc | hc
  · exact a.out c hc
  · rw [List.mem_singleton.mp hc]; exact ⟨hh, hk⟩
theorem NumS.put {M : Int} {st : Sta} {n : Int} {s : Spc} (h : NumS M st) (hn : Bn M n) (hs : SpcN M s) : NumS M { st with sp := putI st.sp n s } := ⟨fun p hp => by
  rcases mem_put hp with hp | rfl
  · exact h.sp p hp
  · exact ⟨hn, hs⟩, h.sn⟩
theorem NumS.within {M : Int} {st : Sta} {e : Eff} {k : Int} {s : Spc} (h : NumS M st) (he : EffN M e) (hs : (k, s) ∈ st.sp) : NumS M (within s e st) := by
  have a : SpcN M s := (h.sp _ hs).2
  cases e with
  | gone n o => exact ⟨fun p hp => h.sp p (mem_del hp), fun p hp => h.sn p (List.mem_filter.mp hp).1⟩
  | snap n m b =>
    refine ⟨h.sp, fun p hp => ?_⟩
    rcases mem_set' hp with hp | ⟨w, e, rfl⟩
    · exact h.sn p hp
    · cases b with
      | none => cases e
      | some b => cases e; exact ⟨he.1, he.2, a.cs⟩
  | place n p v => exact h.put he.1 ⟨a.z, a.cs.set he.2.1 he.2.2, a.rg, a.hd⟩
  | key n x k =>
    cases k with
    | none => exact h.put he.1 ⟨a.z, a.cs, a.rg.out, a.hd⟩
    | some k => exact h.put he.1 ⟨a.z, a.cs, a.rg.ins he.2.1 (he.2.2 k rfl), a.hd⟩
  | hold n hd => exact h.put he.1 ⟨a.z, a.cs, a.rg, he.2⟩
  | host _ _ _ _ => exact h
  | told _ _ => exact h
  | space _ _ => exact h
theorem NumS.after {M : Int} {st : Sta} {e : Eff} (h : NumS M st) (he : EffN M e) : NumS M (afterE e st) := by
  have inn : ∀ m, spaceOf e = some m → NumS M (afterE e st) := fun m hm => by
    rw [after_in hm]
    cases hl : lookI st.sp m with
    | none => exact h
    | some s => exact h.within he (look_mem hl)
  cases e with
  | host hh s c an => exact ⟨h.sp, h.sn⟩
  | told hh d =>
    cases hl : lookI st.mr hh with
    | none => simp only [afterE, hl]; exact h
    | some m => rw [after_told hl]; exact ⟨h.sp, h.sn⟩
  | space m z => exact h.put he.1 ⟨he.2, (fun _ h => nomatch h), (fun _ h => nomatch h), hd_none⟩
  | gone m o => exact inn m rfl
  | snap m _ _ => exact inn m rfl
  | place m _ _ => exact inn m rfl
  | key m _ _ => exact inn m rfl
  | hold m _ => exact inn m rfl
theorem NumS.afters {M : Int} : ∀ {es : List Eff} {st : Sta}, NumS M st → (∀ e ∈ es, EffN M e) → NumS M (es.foldl (fun s e => afterE e s) st)
  | [], _, h, _ => h
  | e :: es, _, h, he => NumS.afters (es := es) (h.after (he e List.mem_cons_self)) fun x hx => he x (List.mem_cons_of_mem _ hx)
theorem NumS.record {M : Int} {st : Sta} {r : Rc} (h : NumS M st) (ho : Bn M r.o) (hh : Bn M r.h) (hb : BdN M r.b) : NumS M (afterR st r) :=
  NumS.afters (es := effsR r) (st := { st with o := r.o }) ⟨h.sp, h.sn⟩ fun e he => by
    rcases List.mem_cons.mp he with rfl | he
    · exact True.intro
    · exact effs_n ho hh hb e he
/-! ### the marks of a state -/
def TxtD (n : Nat) (d : PyData) : Prop := tupO d = true ∧ d.showable = true ∧ costD d ≤ n
structure MrkN (M : Int) (m : Mrk) : Prop where
  s : Bn M m.s
  c : Bn M m.c
  an : TxtD 20 m.an
  td : TxtD 45 m.td
def MrkNs (M : Int) (st : Sta) : Prop := ∀ p ∈ st.mr, Bn 1000 p.1 ∧ MrkN M p.2
theorem txt_none {n : Nat} (h : 4 ≤ n) : TxtD n .none := ⟨by simp [tupO], by simp [PyData.showable], by simpa [costD] using h⟩
theorem answ_txt {k : Str} {o : Int} (h : Bn 2000 o) : TxtD 20 (answD k o) := by
  have e : costD (.str ("ok" : Str)) = 4 := by simp only [costD]; decide +kernel
  have a := int_cost h
  unfold answD
  split
  · exact txt_none (by decide)
  · split
    · refine ⟨by simp [tupO, tupOs], by simp [PyData.showable, PyData.showableAll]; simpa [PyData.showable] using int_show h, ?_⟩
      show 3 + (costD (.str ("ok" : Str)) + 2 + (costD (.int o) + 2 + 0)) ≤ 20
      omega
    · refine ⟨by simp [tupO, tupOs], by simp [PyData.showable, PyData.showableAll], ?_⟩
      show 3 + (costD (.str ("ok" : Str)) + 2 + (4 + 2 + 0)) ≤ 20
      omega
theorem toldOf_txt {st : Sta} {h M : Int} (g : MrkNs M st) : TxtD 45 (toldOf st h) := by
  unfold toldOf
  cases e : lookI st.mr h with
  | none => exact txt_none (by decide)
  | some m => exact (g _ (look_mem e)).2.td
theorem told4_txt {st : Sta} {h M : Int} (hM : M ≤ 2000) (g : MrkNs M st) : TxtD 45 (told4 st h) := by
  unfold told4
  cases e : lookI st.mr h with
  | none => exact txt_none (by decide)
  | some m =>
    have gm : MrkN M m := (g _ (look_mem e)).2
    by_cases c : m.c = 0
    · simp only [if_pos c]; exact gm.td
    · simp only [if_neg c]
      have b1 : Bn 2000 m.s := Int.le_trans gm.s hM
      have b2 : Bn 2000 m.c := Int.le_trans gm.c hM
      refine ⟨by simp [tupO, tupOs, gm.an.1], ?_, ?_⟩
      · have h1 := int_show b1
        have h2 := int_show b2
        simp only [PyData.showable, PyData.showableAll, gm.an.2.1, Bool.and_true]
        simp only [PyData.showable] at h1 h2
        rw [h1, h2]; rfl
      · show 3 + (costD (.int m.s) + 2 + (costD (.int m.c) + 2 + (costD m.an + 2 + 0))) ≤ 45
        have := int_cost b1; have := int_cost b2; have := gm.an.2.2
        omega
theorem MrkNs.record {st : Sta} {r : Rc} {M N : Int} (g : MrkNs M st) (hM : M ≤ N) (hN : N ≤ 2000) (hh : Bn 1000 r.h) (hs : Bn N r.s) (hc : Bn N r.c) (ho : Bn 1000 r.o) (hm : ∀ d, r.b = .mark d → d = told4 st r.h) : MrkNs N (afterR st r) := by
  rw [law_eq]
  intro p hp
  rcases mem_put hp with hp | rfl
  · have a := g p hp
    exact ⟨a.1, Int.le_trans a.2.s hM, Int.le_trans a.2.c hM, a.2.an, a.2.td⟩
  · refine ⟨hh, hs, hc, answ_txt (Int.le_trans ho (by decide)), ?_⟩
    show TxtD 45 (toldL st r)
    unfold toldL
    split
    · rename_i d e
      rw [hm d e]; exact told4_txt (Int.le_trans hM hN) g
    · exact toldOf_txt g
/-! ### a state's text is short -/
structure ShowS (st : Sta) : Prop where
  fl : ∀ p ∈ st.mr, tupO p.2.an = true ∧ tupO p.2.td = true
  sh : (stateD st).showable = true
  sz : (stateD st).shown.length ≤ sizeLine
  dp : (stateD st).depth ≤ 60
theorem showK_of : ∀ {α : Type} {f : α → PyData × PyData} {l : List α}, (∀ x ∈ l, (f x).1.showable = true ∧ (f x).2.showable = true) → PyData.showableKv (l.map f) = true
  | _, _, [], _ => by simp [PyData.showableKv]
  | _, f, x :: l, h => by
    have h1 := h x List.mem_cons_self
    have h2 := showK_of (l := l) fun y hy => h y (List.mem_cons_of_mem _ hy)
    rw [List.map_cons]
    rcases e : f x with ⟨a, b⟩
    rw [e] at h1
    simp [PyData.showableKv, h1.1, h1.2, h2]
theorem showA_of : ∀ {α : Type} {f : α → PyData} {l : List α}, (∀ x ∈ l, (f x).showable = true) → PyData.showableAll (l.map f) = true
  | _, _, [], _ => by simp [PyData.showableAll]
  | _, f, x :: l, h => by
    rw [List.map_cons]
    simp [PyData.showableAll, h x List.mem_cons_self, showA_of (l := l) fun y hy => h y (List.mem_cons_of_mem _ hy)]
theorem depthK_of : ∀ {α : Type} {f : α → PyData × PyData} {l : List α} {n : Nat}, (∀ x ∈ l, (f x).1.depth ≤ n ∧ (f x).2.depth ≤ n) → PyData.depthKv (l.map f) ≤ n
  | _, _, [], _, _ => by simp [PyData.depthKv]
  | _, f, x :: l, n, h => by
    have h1 := h x List.mem_cons_self
    have h2 := depthK_of (l := l) fun y hy => h y (List.mem_cons_of_mem _ hy)
    rw [List.map_cons]
    rcases e : f x with ⟨a, b⟩
    rw [e] at h1
    simp only [PyData.depthKv]
    simp only at h1
    omega
theorem cells_cost {cs : Cells} {n : Nat} (h : CsN 1000 cs) (hl : cs.length ≤ n) : costD (cellsD cs) ≤ 2 + n * 14 := by
  show 2 + costK _ ≤ _
  have := costK_le (f := fun c : Int × Int => (keyD (eI c.1), PyData.int c.2)) (n := 14) (l := cs) fun c hc => by
    have a := int_cost (i := c.1) (Int.le_trans (h c hc).1 (by decide))
    have b := int_cost (i := c.2) (Int.le_trans (h c hc).2 (by decide))
    show costD (.int c.1) + costD (.int c.2) + 4 ≤ 14
    omega
  have := Nat.mul_le_mul_right 14 hl
  omega
theorem cells_show {cs : Cells} (h : CsN 1000 cs) : (cellsD cs).showable = true := by
  show PyData.showable (.dict _) = true
  simp only [PyData.showable]
  exact showK_of fun c hc => ⟨int_show (Int.le_trans (h c hc).1 (by decide)), int_show (Int.le_trans (h c hc).2 (by decide))⟩
theorem cells_depth {cs : Cells} : (cellsD cs).depth ≤ 1 := by
  show PyData.depth (.dict _) ≤ 1
  simp only [PyData.depth]
  have := depthK_of (f := fun c : Int × Int => (keyD (eI c.1), PyData.int c.2)) (l := cs) (n := 0) fun c _ => ⟨by simp [keyD, PyData.depth], by simp [PyData.depth]⟩
  omega
theorem way_txt {w : Str} (h : w ∈ (["write", "alone"] : List Str)) : costD (.str w) ≤ 10 := by
  have e : ∀ x ∈ (["write", "alone"] : List Str), costD (.str x) ≤ 10 := by
    intro x hx
    simp only [costD]
    have : ∀ x ∈ (["write", "alone"] : List Str), (reprText x).length ≤ 10 := by decide +kernel
    exact this x hx
  exact e w h
theorem fence_cost {rg : List (Int × Int)} {hd : Option (Int × Str)} {n : Nat} (h : CsN 1000 rg) (hh : HdN 1000 hd) (hl : rg.length ≤ n) : costD (fenceD rg hd) ≤ 40 + n * 19 := by
  have a := costA_le (f := rowD) (n := 19) (l := rg) fun c hc => by
    have a := int_cost (i := c.1) (Int.le_trans (h c hc).1 (by decide))
    have b := int_cost (i := c.2) (Int.le_trans (h c hc).2 (by decide))
    show 3 + (costD (.int c.1) + 2 + (costD (.int c.2) + 2 + 0)) + 2 ≤ 19
    omega
  have a2 := Nat.mul_le_mul_right 19 hl
  have b : costD (holdD hd) ≤ 22 := by
    cases hd with
    | none => show 4 ≤ 22; decide
    | some x =>
      obtain ⟨i, w⟩ := x
      have z := hh i w rfl
      have c := int_cost (i := i) (Int.le_trans z.1 (by decide))
      have d := way_txt z.2
      show 3 + (costD (.int i) + 2 + (costD (.str w) + 2 + 0)) ≤ 22
      omega
  show 3 + (3 + costA (rg.map rowD) + 2 + (costD (holdD hd) + 2 + 0)) ≤ _
  omega
theorem fence_show {rg : List (Int × Int)} {hd : Option (Int × Str)} (h : CsN 1000 rg) (hh : HdN 1000 hd) : (fenceD rg hd).showable = true := by
  have a := showA_of (f := rowD) (l := rg) fun c hc => by
    have a := int_show (i := c.1) (Int.le_trans (h c hc).1 (by decide))
    have b := int_show (i := c.2) (Int.le_trans (h c hc).2 (by decide))
    simp only [PyData.showable] at a b
    simp only [rowD, PyData.showable, PyData.showableAll, a, b]; rfl
  have b : (holdD hd).showable = true := by
    cases hd with
    | none => simp [holdD, PyData.showable]
    | some x =>
      obtain ⟨i, w⟩ := x
      have b := int_show (i := i) (Int.le_trans (hh i w rfl).1 (by decide))
      simp only [PyData.showable] at b
      simp only [holdD, PyData.showable, PyData.showableAll, b]; rfl
  simp only [fenceD, PyData.showable, PyData.showableAll, a, b]; rfl
theorem fence_depth {rg : List (Int × Int)} {hd : Option (Int × Str)} : (fenceD rg hd).depth ≤ 3 := by
  have a := (rows_lay rg).2
  cases hd with
  | none => simp only [fenceD, holdD, PyData.depth, PyData.depthAll]; omega
  | some x => simp only [fenceD, holdD, PyData.depth, PyData.depthAll]; omega
theorem space_txt {x : Spc} {n : Nat} (h : SpcN 1000 x) (h1 : x.cs.length ≤ n) (h2 : x.rg.length ≤ n) : costD (spcD x) ≤ 60 + n * 33 ∧ (spcD x).showable = true ∧ (spcD x).depth ≤ 4 := by
  have a := int_cost (i := x.z) (Int.le_trans h.z (by decide))
  have b := cells_cost h.cs h1
  have c := fence_cost h.rg h.hd h2
  refine ⟨?_, ?_, ?_⟩
  · show 3 + (costD (.int x.z) + 2 + (costD (cellsD x.cs) + 2 + (costD (fenceD x.rg x.hd) + 2 + 0))) ≤ _
    omega
  · have d := int_show (i := x.z) (Int.le_trans h.z (by decide))
    simp only [PyData.showable] at d
    simp only [spcD, PyData.showable, PyData.showableAll, d, cells_show h.cs, fence_show h.rg h.hd]; rfl
  · have d := cells_depth (cs := x.cs)
    have e := fence_depth (rg := x.rg) (hd := x.hd)
    simp only [spcD, PyData.depth, PyData.depthAll]; omega
theorem mark_txt {m : Mrk} {M : Int} (hM : M ≤ 2000) (h : MrkN M m) (g : MrkG m) : costD (markD m) ≤ 90 ∧ (markD m).showable = true ∧ (markD m).depth ≤ 4 := by
  have b1 : Bn 2000 m.s := Int.le_trans h.s hM
  have b2 : Bn 2000 m.c := Int.le_trans h.c hM
  refine ⟨?_, ?_, ?_⟩
  · have := int_cost b1; have := int_cost b2; have := h.an.2.2; have := h.td.2.2
    show 3 + (costD (.int m.s) + 2 + (costD (.int m.c) + 2 + (costD m.an + 2 + (costD m.td + 2 + 0)))) ≤ _
    omega
  · have h1 := int_show b1
    have h2 := int_show b2
    simp only [PyData.showable] at h1 h2
    simp only [markD, PyData.showable, PyData.showableAll, h1, h2, h.an.2.1, h.td.2.1]; rfl
  · have := g.ad; have := g.td
    simp only [markD, PyData.depth, PyData.depthAll]; omega
theorem str_le {x : Str} {n : Nat} (h : (reprText x).length ≤ n) : costD (.str x) ≤ n := by simp only [costD]; exact h
/-- a state of bounded numbers and sizes has a short text -/
theorem show_of {st : Sta} {n : Nat} {M : Int} (hn : n ≤ 200) (hM : M ≤ 2000) (ho : Bn 1000 st.o) (G : StG n st) (N : NumS 1000 st) (mn : MrkNs M st) (mg : MrkS st) : ShowS st := by
  have c1 : costK (st.sp.map fun q => (keyD (eI q.1), spcD q.2)) ≤ st.sp.length * 7000 := costK_le fun q hq => by
    have a := int_cost (i := q.1) (Int.le_trans (N.sp q hq).1 (by decide))
    have b := (space_txt (N.sp q hq).2 (G.sm.cs q hq) (G.rg q hq).2).1
    show costD (.int q.1) + costD (spcD q.2) + 4 ≤ 7000
    omega
  have c2 : costK (st.sn.map fun q => (topD (eP q.1), cellsD q.2)) ≤ st.sn.length * 3000 := costK_le fun q hq => by
    have a := int_cost (i := q.1.1) (Int.le_trans (N.sn q hq).1 (by decide))
    have a' := int_cost (i := q.1.2) (Int.le_trans (N.sn q hq).2.1 (by decide))
    have b := cells_cost (N.sn q hq).2.2 (G.sm.cn q hq)
    show 3 + (costD (.int q.1.1) + 2 + (costD (.int q.1.2) + 2 + 0)) + costD (cellsD q.2) + 4 ≤ 3000
    omega
  have c3 : costK (st.mr.map fun q => (keyD (eI q.1), markD q.2)) ≤ st.mr.length * 100 := costK_le fun q hq => by
    have a := int_cost (i := q.1) (Int.le_trans (mn q hq).1 (by decide))
    have b := (mark_txt hM (mn q hq).2 (mg q hq)).1
    show costD (.int q.1) + costD (markD q.2) + 4 ≤ 100
    omega
  refine ⟨fun p hp => ⟨(mn p hp).2.an.1, (mn p hp).2.td.1⟩, ?_, ?_, ?_⟩
  · have s1 : PyData.showableKv (st.sp.map fun q => (PyData.int q.1, spcD q.2)) = true := showK_of fun q hq => ⟨int_show (Int.le_trans (N.sp q hq).1 (by decide)), (space_txt (N.sp q hq).2 (G.sm.cs q hq) (G.rg q hq).2).2.1⟩
    have s2 : PyData.showableKv (st.sn.map fun q => (topD (eP q.1), cellsD q.2)) = true := showK_of fun q hq => ⟨by
      have a := int_show (i := q.1.1) (Int.le_trans (N.sn q hq).1 (by decide))
      have b := int_show (i := q.1.2) (Int.le_trans (N.sn q hq).2.1 (by decide))
      simp only [PyData.showable] at a b
      simp only [topD, eP, List.map_cons, List.map_nil, keyD, PyData.showable, PyData.showableAll, a, b]; rfl, cells_show (N.sn q hq).2.2⟩
    have s3 : PyData.showableKv (st.mr.map fun q => (PyData.int q.1, markD q.2)) = true := showK_of fun q hq => ⟨int_show (Int.le_trans (mn q hq).1 (by decide)), (mark_txt hM (mn q hq).2 (mg q hq)).2.1⟩
    have s0 := int_show (i := st.o) (Int.le_trans ho (by decide))
    simp only [PyData.showable] at s0
    simp only [stateD, List.map_cons, List.map_nil, keyD, PyData.showable, PyData.showableKv, s0, s1, s2, s3]; rfl
  · refine Nat.le_trans (shown_cost _) ?_
    have z0 := int_cost (i := st.o) (Int.le_trans ho (by decide))
    have k1 : costD (.str ("order" : Str)) ≤ 20 := str_le (by decide +kernel)
    have k2 : costD (.str ("spaces" : Str)) ≤ 20 := str_le (by decide +kernel)
    have k3 : costD (.str ("snaps" : Str)) ≤ 20 := str_le (by decide +kernel)
    have k4 : costD (.str ("marks" : Str)) ≤ 20 := str_le (by decide +kernel)
    have l1 := Nat.mul_le_mul_right 7000 (Nat.le_trans G.sm.sp hn)
    have l2 := Nat.mul_le_mul_right 3000 (Nat.le_trans G.sm.sn hn)
    have l3 := Nat.mul_le_mul_right 100 (Nat.le_trans G.sm.mr hn)
    show 2 + (costD (.str ("order" : Str)) + costD (.int st.o) + 4 + (costD (.str ("spaces" : Str)) + (2 + costK (st.sp.map fun q => (keyD (eI q.1), spcD q.2))) + 4 + (costD (.str ("snaps" : Str)) + (2 + costK (st.sn.map fun q => (topD (eP q.1), cellsD q.2))) + 4 + (costD (.str ("marks" : Str)) + (2 + costK (st.mr.map fun q => (keyD (eI q.1), markD q.2))) + 4 + 0)))) ≤ 2 ^ 24
    omega
  · have d1 : PyData.depthKv (st.sp.map fun q => (PyData.int q.1, spcD q.2)) ≤ 4 := depthK_of fun q hq => ⟨by simp [keyD, PyData.depth], (space_txt (N.sp q hq).2 (G.sm.cs q hq) (G.rg q hq).2).2.2⟩
    have d2 : PyData.depthKv (st.sn.map fun q => (topD (eP q.1), cellsD q.2)) ≤ 1 := depthK_of fun q hq => ⟨by simp [topD, eP, keyD, PyData.depth, PyData.depthAll], cells_depth⟩
    have d3 : PyData.depthKv (st.mr.map fun q => (PyData.int q.1, markD q.2)) ≤ 4 := depthK_of fun q hq => ⟨by simp [keyD, PyData.depth], (mark_txt hM (mn q hq).2 (mg q hq)).2.2⟩
    simp only [stateD, List.map_cons, List.map_nil, keyD, PyData.depth, PyData.depthKv]
    omega
/-! ### repr(state) -/
def rRepr (K : PySem.W.Frag) : List V → Hp → VK → Prop := fun vs H Q => ∃ (a : Addr) (st : Sta), vs = [.ref a] ∧ StAt K H a st ∧ ShowS st ∧ Q (.str (stateD st).shown) H
theorem cr_repr {X : Cx} (hg : X.A.guards = some []) (hu : X.A.units + 64 < cLine) : CallR X (.builtin "repr") (rRepr X.K) := by
  intro pins s σ H xs us Q I r h
  obtain ⟨a, st, rfl, hs, sh, q⟩ := h
  obtain ⟨u, rfl, ru⟩ := vals1 r
  obtain ⟨as, h1, h2⟩ := rd_state I hs sh.fl u ru
  obtain rfl : u = Value.ref a := ru
  have hd := sh.dp
  exact repr_of_reads' h1 sh.sh (fun _ => h2) hg (by omega) (fun _ _ e => e) (fun h' v tk hk => ⟨.str _, H, I.kept hk, ⟨_, rfl⟩, q⟩) sh.sz
end Sg

set_option Elab.async false
set_option linter.all false
set_option maxRecDepth 100000
set_option maxHeartbeats 4000000
namespace Sg
open PySem PySem.Spec PyProof.Rows L2
structure BN (mg : Str → Option Value) : Prop where
  len : mg "len" = none
  abs : mg "abs" = none
  int : mg "int" = none
  list : mg "list" = none
  range : mg "range" = none
  tuple : mg "tuple" = none
  sorted : mg "sorted" = none
  any : mg "any" = none
  isi : mg "isinstance" = none
  bool : mg "bool" = none
def TapeQ (K : PySem.W.Frag) (H : Hp) (p q : Addr) : Prop := ∃ (ns : List Int) (i : Nat) (rest seed : Int), H p = some (.lst [.ref q, .int (i : Int), .int rest, .int seed]) ∧ H q = some (.lst (ns.map V.int)) ∧ q ≠ p ∧ 0 ≤ rest ∧ 0 ≤ seed ∧ seed < 2147483647
section
variable {K : PySem.W.Frag} {H H' : Hp} {p q : Addr}
theorem TapeQ.off {xs : List Addr} (h : TapeQ K H p q) (o : Off xs H H') (n1 : p ∉ xs) (n2 : q ∉ xs) : TapeQ K H' p q := by
  obtain ⟨ns, i, rest, seed, h1, h2, h3⟩ := h
  exact ⟨ns, i, rest, seed, o _ _ h1 n1, o _ _ h2 n2, h3⟩
theorem TapeQ.same (h : TapeQ K H p q) (s : Same H H') : TapeQ K H' p q := h.off (Off.of (xs := []) s) (by simp) (by simp)
theorem TapeQ.lst (h : TapeQ K H p q) : ∃ l, H p = some (.lst l) := by
  obtain ⟨ns, i, rest, seed, h1, _⟩ := h
  exact ⟨_, h1⟩
theorem TapeQ.tk (h : TapeQ K H p q) (o : Off [p] H H') : TK H H' := TK.off o fun x hx => by
  rw [List.mem_singleton.mp hx]; exact .inl h.lst
end
def spNext (K : PySem.W.Frag) : Sp := fun vs H Q _ => ∃ (p q : Addr) (many : Int), vs = [.ref p, .int many] ∧ TapeQ K H p q ∧ 0 < many ∧ many < 1073741824 ∧ ∀ r H', 0 ≤ r → r < many → Off [p] H H' → TapeQ K H' p q → Q (.int r) H'
section
variable {P : Program} {wd : World} {K : PySem.W.Frag} {mg : Str → Option Value} {base : Heap} {f f1 : Addr} {fd fd1 : FuncData}
/-- one of a displayed list -/
theorem pickL {K : PySem.W.Frag} {H : Hp} {tp q l2 : Addr} {es : List V} {σ : L2.St} {Q : VK} {j : Nat} (t : TapeQ K H tp q) (hl : H l2 = none) (hpos : 0 < es.length) (hlt : es.length < 1000)
    (k : ∀ z H', z ∈ es → Off [tp] H H' → TapeQ K H' tp q → TK H H' → Q z H') (ht : ∀ (H1 : Hp) (Q1 : List V → Hp → Prop), Q1 [.ref tp, .int (es.length : Nat)] H1 → tCons (tVar j) (tCons (tC (.int (es.length : Nat))) tNil) σ H1 Q1) :
    tOp (rIxL K) (tC (.ref l2)) (tCall (spNext K) [] E0 (tCons (tVar j) (tCons (tC (.int (es.length : Nat))) tNil))) σ (upd H l2 (.lst es)) Q := by
  have s := same_new (o := .lst es) hl
  have hl' : (upd H l2 (.lst es)) l2 = some (.lst es) := upd_same
  generalize upd H l2 (.lst es) = H1 at s hl'
  have t1 := t.same s
  have n : l2 ≠ tp := fun e => by
    obtain ⟨z, hz⟩ := t.lst
    rw [e, hz] at hl; cases hl
  show tCons (tVar j) (tCons (tC (.int (es.length : Nat))) tNil) σ H1 (fun vs H2 => spNext K (vs ++ []) H2 (fun y H3 => rIxL K (.ref l2) y H3 Q) E0)
  refine ht _ _ ?_
  show spNext K [.ref tp, .int (es.length : Nat)] H1 _ _
  refine ⟨tp, q, _, rfl, t1, by omega, by omega, fun r H2 r0 r1 o2 t2 => ?_⟩
  have h2 := o2 _ _ hl' (by simpa using n)
  have o : Off [tp] H H2 := fun b u e m => o2 _ _ (s _ _ e) m
  have hj : r.toNat < es.length := by omega
  refine ⟨l2, _, _, es[r.toNat], rfl, rfl, SqL.of h2, ?_, k _ H2 (List.getElem_mem hj) o t2 ((TK.of s).trans (t1.tk o2))⟩
  have := atI_nat (List.getElem?_eq_getElem hj)
  rw [show ((r.toNat : Nat) : Int) = r by omega] at this
  exact this
end
end Sg

set_option Elab.async false
set_option linter.all false
set_option maxRecDepth 100000
set_option maxHeartbeats 4000000
namespace Sg
open PySem PySem.Spec PyProof.Rows L2
theorem EffAt.tk {K : PySem.W.Frag} {H H' : Hp} {p : Addr} {e : Ef} (h : EffAt K H p e) (g : tupO e.2 = true) (s : TK H H') : EffAt K H' p e := by
  obtain ⟨t, v, a, b, c⟩ := h
  exact ⟨t, v, s.t _ _ a, s.t _ _ b, dp_tk s _ _ g c⟩
theorem eff_list1f {K : PySem.W.Frag} {σ : L2.St} {H : Hp} {te : TE} {e : Ef} {Q : VK} (h : ∀ R : VK, (∀ p H', Same H H' → EffAt K H' p e → R (.ref p) H') → te σ H R) (q : ∀ l (ps : List Addr) H', Same H H' → H l = Option.none → H' l = some (.lst (ps.map V.ref)) → Paired (EffAt K H') ps [e] → Q (.ref l) H') :
    tLst (tCons te tNil) σ H Q := by
  refine h _ fun p H1 s1 e1 => ⟨by show 1 ≤ sizeLine; decide, fun l hl => ?_⟩
  have s2 := same_new (o := .lst [V.ref p]) hl
  exact q l [p] _ (s1.trans s2) (s1.free hl) upd_same (.cons (e1.same s2) .nil)
theorem eff_new1 {K : PySem.W.Frag} {σ : L2.St} {H : Hp} {te : TE} {e : Ef} {Q : VK} (h : EE K te σ H e) (q : ∀ p l H3, Same H H3 → EffAt K H3 p e → H3 l = Option.none → Q (.ref l) (upd H3 l (.lst [.ref p]))) : tLst (tCons te tNil) σ H Q :=
  h _ fun p H1 s1 e1 => ⟨by show 1 ≤ sizeLine; decide, fun l hl => q p l H1 s1 e1 hl⟩
theorem seqN {K : PySem.W.Frag} {te : TE} {i : Nat} {r : TS} {D : Ends} {σ : L2.St} {H : Hp} {e : Ef} (h : EE K te σ H e) (k : ∀ p l H3, Same H H3 → EffAt K H3 p e → H3 l = Option.none → r D (σ.set i (some (.ref l))) (upd H3 l (.lst [.ref p]))) : tSeq (tAsg (tLst (tCons te tNil)) (gName i)) r D σ H := by
  show tLst (tCons te tNil) σ H (fun v H' => r D (σ.set i (some v)) H')
  exact eff_new1 h k
theorem cut_three {x1 x2 x3 : V} {r : List V} : cutV (x1 :: x2 :: x3 :: r) Option.none (some 3) = [x1, x2, x3] := by
  unfold cutV
  rw [show HT.sIx (x1 :: x2 :: x3 :: r).length 0 none = 0 from HT.sIx_none _ _, show (some (3 : Int)) = some ((3 : Nat) : Int) from rfl, HT.sIx_nat]
  rw [Nat.min_eq_left (by simp only [List.length_cons]; omega)]
  rfl
def spEffB (K : PySem.W.Frag) : Sp := fun vs H Q _ => ∃ (t : Addr) (r : Rc), vs = [.ref t] ∧ RecAt K H t r ∧
  ∀ l (ps : List Addr) H', Same H H' → H l = Option.none → H' l = some (.lst (ps.map V.ref)) → Paired (EffAt K H') ps (effB r.o r.h r.b) → Q (.ref l) H'
section
variable {P : Program} {wd : World} {K : PySem.W.Frag} {mg : Str → Option Value} {base : Heap} {f : Addr} {fd : FuncData}
end
end Sg

set_option Elab.async false
set_option linter.all false
set_option maxRecDepth 100000
set_option maxHeartbeats 4000000
namespace Sg
open PySem PySem.Spec PyProof.Rows L2
/-! ### topics, as data -/
theorem effB_k {o h : Int} {b : Bd} : ∀ e ∈ effB o h b, KOk e.1 := by
  have w : ∀ s ∈ (["told", "space", "gone", "place", "snap", "key", "hold"] : List Str), PyData.strOk s = true := by decide +kernel
  have one : ∀ {s : Str} {r : List Key}, s ∈ (["told", "space", "gone", "place", "snap", "key", "hold"] : List Str) → (∀ x ∈ r, ∃ i, x = Sum.inl i) → KOk (.inr s :: r) := by
    intro s r hs hr x hx t ht
    rcases List.mem_cons.mp hx with rfl | hx
    · cases ht; exact w _ hs
    · obtain ⟨i, rfl⟩ := hr x hx; cases ht
  intro e he
  cases b with
  | leave n hb => cases hb <;> simp only [effB, List.mem_cons, List.not_mem_nil, or_false] at he <;> (try rcases he with rfl | rfl) <;> (try subst he) <;> exact one (by decide) (by simp)
  | preempt n v w => cases w <;> simp only [effB, List.mem_cons, List.not_mem_nil, or_false] at he <;> (try rcases he with rfl | rfl) <;> (try subst he) <;> exact one (by decide) (by simp)
  | _ => simp only [effB, List.mem_cons, List.not_mem_nil, or_false] at he; subst he; exact one (by decide) (by simp)
theorem effB_t {r : Rc} (g : RGood r) : ∀ e ∈ effB r.o r.h r.b, tupO e.2 = true := by
  intro e he
  obtain ⟨o, h, s, c, b⟩ := r
  cases b with
  | mark d =>
    simp only [effB, List.mem_cons, List.not_mem_nil, or_false] at he
    subst he
    have := g.t
    simpa [fldD, tupOs] using this
  | leave n hb => cases hb <;> simp only [effB, List.mem_cons, List.not_mem_nil, or_false] at he <;> (try rcases he with rfl | rfl) <;> (try subst he) <;> rfl
  | preempt n v w => cases w <;> simp only [effB, List.mem_cons, List.not_mem_nil, or_false] at he <;> (try rcases he with rfl | rfl) <;> (try subst he) <;> rfl
  | _ => simp only [effB, List.mem_cons, List.not_mem_nil, or_false] at he; subst he; rfl
theorem effB_len {o h : Int} {b : Bd} : (effB o h b).length ≤ 2 := by
  cases b with
  | leave n hb => cases hb <;> simp [effB]
  | preempt n v w => cases w <;> simp [effB]
  | _ => simp [effB]
/-- one more behind a list of one's own -/
theorem push {H Hx : Hp} {rl p : Addr} {xs : List V} {ob : HO} (sm : Same H Hx) (hn : H rl = Option.none) (hl : Hx rl = some (.lst xs)) (hp : Hx p = Option.none) :
    TK Hx (upd (upd Hx p ob) rl (.lst (xs ++ [.ref p]))) ∧ Same H (upd (upd Hx p ob) rl (.lst (xs ++ [.ref p]))) ∧ (upd (upd Hx p ob) rl (.lst (xs ++ [.ref p]))) rl = some (.lst (xs ++ [.ref p])) ∧ (upd (upd Hx p ob) rl (.lst (xs ++ [.ref p]))) p = some ob ∧
    ∀ b u, Hx b = some u → b ≠ rl → (upd (upd Hx p ob) rl (.lst (xs ++ [.ref p]))) b = some u := by
  have s1 := same_new (o := ob) hp
  have npr : p ≠ rl := fun e => by rw [e, hl] at hp; cases hp
  refine ⟨(TK.of s1).trans (TK.off (xs := [rl]) (Off.upd (by simp)) fun x hx => by rw [List.mem_singleton.mp hx]; exact .inl ⟨_, s1 _ _ hl⟩), fun b u e => ?_, upd_same, by rw [upd_ne npr, upd_same], fun b u e n => by rw [upd_ne n]; exact s1 _ _ e⟩
  rw [upd_ne (ne_of_none e hn)]; exact s1 _ _ (sm _ _ e)
/-! ### the rows of a topic -/
abbrev Rw := Int × PyData
def RowAt (K : PySem.W.Frag) (H : Hp) (p : Addr) (x : Rw) : Prop := ∃ v, H p = some (.tup [.int x.1, v]) ∧ Dp K H v x.2
theorem RowAt.tk {K : PySem.W.Frag} {H H' : Hp} {p : Addr} {x : Rw} (h : RowAt K H p x) (g : tupO x.2 = true) (s : TK H H') : RowAt K H' p x := by
  obtain ⟨v, a, b⟩ := h
  exact ⟨v, s.t _ _ a, dp_tk s _ _ g b⟩
theorem RowAt.same {K : PySem.W.Frag} {H H' : Hp} {p : Addr} {x : Rw} (h : RowAt K H p x) (s : Same H H') : RowAt K H' p x := by
  obtain ⟨v, a, b⟩ := h
  exact ⟨v, s _ _ a, dp_same s _ _ b⟩
def rowsE (o : Int) (k : List Key) (es : List Ef) : List Rw := es.filterMap fun e => if e.1 = k then some (o, e.2) else none
def rowsL (rs : List Rc) (k : List Key) : List Rw := (rs.map fun r => rowsE r.o k (effB r.o r.h r.b)).flatten
theorem rowsE_t {r : Rc} {k : List Key} {es : List Ef} (g : ∀ e ∈ es, tupO e.2 = true) : ∀ x ∈ rowsE r.o k es, tupO x.2 = true := by
  intro x hx
  obtain ⟨e, he, h⟩ := List.mem_filterMap.mp hx
  split at h
  · cases h; exact g e he
  · cases h
theorem rowsL_t {rs : List Rc} {k : List Key} (g : ∀ r ∈ rs, RGood r) : ∀ x ∈ rowsL rs k, tupO x.2 = true := by
  intro x hx
  obtain ⟨l, hl, hx⟩ := List.mem_flatten.mp hx
  obtain ⟨r, hr, rfl⟩ := List.mem_map.mp hl
  exact rowsE_t (effB_t (g r hr)) x hx
theorem paired_tk {K : PySem.W.Frag} {H H' : Hp} (s : TK H H') : ∀ {ps : List Addr} {xs : List Rw}, (∀ x ∈ xs, tupO x.2 = true) → Paired (RowAt K H) ps xs → Paired (RowAt K H') ps xs
  | _, _, _, .nil => .nil
  | _, _, g, .cons r t => .cons (r.tk (g _ List.mem_cons_self) s) (paired_tk s (fun x hx => g x (List.mem_cons_of_mem _ hx)) t)
theorem paired_etk {K : PySem.W.Frag} {H H' : Hp} (s : TK H H') : ∀ {ps : List Addr} {xs : List Ef}, (∀ x ∈ xs, tupO x.2 = true) → Paired (EffAt K H) ps xs → Paired (EffAt K H') ps xs
  | _, _, _, .nil => .nil
  | _, _, g, .cons r t => .cons (r.tk (g _ List.mem_cons_self) s) (paired_etk s (fun x hx => g x (List.mem_cons_of_mem _ hx)) t)
def spLRows (K : PySem.W.Frag) : Sp := fun vs H Q _ => ∃ (a tt : Addr) (ts : List Addr) (rs : List Rc) (k : List Key), vs = [.ref a, .ref tt] ∧ SqL K H a (ts.map V.ref) ∧ Paired (RecAt K H) ts rs ∧ rs.length ≤ 100 ∧ (∀ r ∈ rs, RGood r) ∧ TopAt K H tt k ∧ KOk k ∧
  ∀ l (ps : List Addr) H', Same H H' → H l = Option.none → H' l = some (.lst (ps.map V.ref)) → Paired (RowAt K H') ps (rowsL rs k) → Q (.ref l) H'
section
variable {P : Program} {wd : World} {K : PySem.W.Frag} {mg : Str → Option Value} {base : Heap} {f fL : Addr} {fd fdL : FuncData}
end
end Sg

set_option Elab.async false
set_option linter.all false
set_option maxRecDepth 100000
set_option maxHeartbeats 4000000
namespace Sg
open PySem PySem.Spec PyProof.Rows L2
/-! ### the topics of records -/
theorem effB_form {o h : Int} {b : Bd} : ∀ e ∈ effB o h b, ∃ w n r, e.1 = Sum.inr w :: Sum.inl n :: r := by
  intro e he
  cases b with
  | leave n hb => cases hb <;> simp only [effB, List.mem_cons, List.not_mem_nil, or_false] at he <;> (try rcases he with rfl | rfl) <;> (try subst he) <;> exact ⟨_, _, _, rfl⟩
  | preempt n v w => cases w <;> simp only [effB, List.mem_cons, List.not_mem_nil, or_false] at he <;> (try rcases he with rfl | rfl) <;> (try subst he) <;> exact ⟨_, _, _, rfl⟩
  | _ => simp only [effB, List.mem_cons, List.not_mem_nil, or_false] at he; subst he; exact ⟨_, _, _, rfl⟩
def word (k : List Key) : Str := match k with
  | .inr w :: _ => w
  | _ => ""
def spaceK (k : List Key) : Int := match k with
  | _ :: .inl n :: _ => n
  | _ => 0
abbrev Tops := List (List Key)
instance memT (k : List Key) (ts : Tops) : Decidable (k ∈ ts) := decidable_of_iff ((ts.any fun x => decide (x = k)) = true) (by simp [List.any_eq_true])
def addT (ts : Tops) (e : Ef) : Tops := if e.1 ∈ ts ∨ word e.1 = "gone" then ts else ts ++ [e.1]
def effsL (rs : List Rc) : List Ef := (rs.map fun r => effB r.o r.h r.b).flatten
def topicsL (rs : List Rc) : Tops := (effsL rs).foldl addT []
theorem addT_k {ts : Tops} {e : Ef} (h : ∀ k ∈ ts, KOk k) (he : KOk e.1) : ∀ k ∈ addT ts e, KOk k := by
  unfold addT
  split
  · exact h
  · intro k hk
    rcases List.mem_append.mp hk with hk | hk
    · exact h k hk
    · rw [List.mem_singleton.mp hk]; exact he
theorem foldT_k : ∀ {es : List Ef} {ts : Tops}, (∀ k ∈ ts, KOk k) → (∀ e ∈ es, KOk e.1) → ∀ k ∈ es.foldl addT ts, KOk k
  | [], _, h, _ => h
  | e :: es, _, h, g => foldT_k (es := es) (addT_k h (g e List.mem_cons_self)) fun x hx => g x (List.mem_cons_of_mem _ hx)
theorem effsL_k {rs : List Rc} : ∀ e ∈ effsL rs, KOk e.1 := by
  intro e he
  obtain ⟨l, hl, he⟩ := List.mem_flatten.mp he
  obtain ⟨r, _, rfl⟩ := List.mem_map.mp hl
  exact effB_k e he
theorem topicsL_k {rs : List Rc} : ∀ k ∈ topicsL rs, KOk k := foldT_k (by intro k hk; cases hk) effsL_k
theorem effsL_snoc {rs : List Rc} {r : Rc} : effsL (rs ++ [r]) = effsL rs ++ effB r.o r.h r.b := by
  unfold effsL
  rw [List.map_append, List.flatten_append]
  show _ ++ (effB r.o r.h r.b ++ []) = _
  rw [List.append_nil]
theorem tops_lay : ∀ {ks : Tops}, (∀ k ∈ ks, KOk k) → PyData.canLayAll0 (ks.map topD) = true ∧ PyData.depthAll (ks.map topD) ≤ 1
  | [], _ => ⟨by simp [PyData.canLayAll0], by simp [PyData.depthAll]⟩
  | k :: ks, h => by
    obtain ⟨i1, i2⟩ := tops_lay (ks := ks) fun x hx => h x (List.mem_cons_of_mem _ hx)
    have g := topD_g (h k List.mem_cons_self)
    refine ⟨by simp [PyData.canLayAll0, i1, g.l], ?_⟩
    have := g.dp
    simp only [List.map_cons, PyData.depthAll]; omega
theorem tops_sh {ks : Tops} (h : ∀ k ∈ ks, KOk k) : SeqAt.shaped (.list (ks.map topD)) = true := shaped_list (tops_lay h).1 (Nat.le_trans (tops_lay h).2 (by decide))
theorem tops_dp {K : PySem.W.Frag} {H : Hp} : ∀ {ps : List Addr} {ks : Tops}, Paired (TopAt K H) ps ks → DpAll K H (ps.map V.ref) (ks.map topD)
  | _, _, .nil => .nil
  | _, _, .cons a b => .cons (TopAt.dp a) (tops_dp b)
theorem tops_any {ks : Tops} {k : List Key} : (ks.map topD).any (fun z => PyData.eqv z (topD k)) = decide (k ∈ ks) := by
  induction ks with
  | nil => rfl
  | cons x ks ih =>
    rw [List.map_cons, List.any_cons, ih, topD_eqv]
    by_cases h : x = k
    · rw [decide_eq_true h, decide_eq_true (show k ∈ x :: ks by rw [h]; exact List.mem_cons_self)]; rfl
    · rw [decide_eq_false h, Bool.false_or]
      by_cases g : k ∈ ks
      · rw [decide_eq_true g, decide_eq_true (List.mem_cons_of_mem _ g)]
      · rw [decide_eq_false g, decide_eq_false fun z => (List.mem_cons.mp z).elim (fun y => h y.symm) g]
theorem paired_ttk {K : PySem.W.Frag} {H H' : Hp} (s : TK H H') : ∀ {ps : List Addr} {ks : Tops}, Paired (TopAt K H) ps ks → Paired (TopAt K H') ps ks
  | _, _, .nil => .nil
  | _, _, .cons r t => .cons (sqT_tk r s) (paired_ttk s t)
theorem addT_len {ts : Tops} {e : Ef} : (addT ts e).length ≤ ts.length + 1 := by
  unfold addT
  split
  · omega
  · rw [List.length_append, List.length_singleton]; omega
def KeyTp (H : Hp) (t : Addr) (k : List Key) : Prop := H t = some (.tup (k.map kV))
theorem paired_ktk {H H' : Hp} (s : ∀ a xs, H a = some (.tup xs) → H' a = some (.tup xs)) : ∀ {ps : List Addr} {ks : Tops}, Paired (KeyTp H) ps ks → Paired (KeyTp H') ps ks
  | _, _, .nil => .nil
  | _, _, .cons r t => .cons (s _ _ r) (paired_ktk s t)
def spLTopics (K : PySem.W.Frag) : Sp := fun vs H Q _ => ∃ (a : Addr) (ts : List Addr) (rs : List Rc), vs = [.ref a] ∧ SqL K H a (ts.map V.ref) ∧ Paired (RecAt K H) ts rs ∧ rs.length ≤ 100 ∧ (∀ r ∈ rs, RGood r) ∧
  ∀ l (ps : List Addr) H', Same H H' → H l = Option.none → H' l = some (.lst (ps.map V.ref)) → Paired (KeyTp H') ps (topicsL rs) → Q (.ref l) H'
/-- a record that belongs to a namespace -/
def memberR (r : Rc) (n : Int) : Bool := (effB r.o r.h r.b).any fun e => decide (spaceK e.1 = n) && decide (word e.1 ≠ "told")
def spLMember (K : PySem.W.Frag) : Sp := fun vs H Q _ => ∃ (t : Addr) (r : Rc) (n : Int), vs = [.ref t, .int n] ∧ RecAt K H t r ∧ ∀ H', Same H H' → Q (.bl (memberR r n)) H'
section
variable {P : Program} {wd : World} {K : PySem.W.Frag} {mg : Str → Option Value} {base : Heap} {f fL : Addr} {fd fdL : FuncData}
end
end Sg

set_option Elab.async false
set_option linter.all false
set_option maxRecDepth 100000
set_option maxHeartbeats 4000000
namespace Sg
open PySem PySem.Spec PyProof.Rows L2
/-! ### what is hidden -/
abbrev Vw := Option (Int × Int)
def ViewAt (K : PySem.W.Frag) (H : Hp) (v : V) : Vw → Prop
  | none => v = .non
  | some (s, n) => ∃ a, v = .ref a ∧ SqT K H a [.int s, .int n]
theorem ViewAt.same {K : PySem.W.Frag} {H H' : Hp} {v : V} {w : Vw} (h : ViewAt K H v w) (s : Same H H') : ViewAt K H' v w := by
  cases w with
  | none => exact h
  | some x =>
    obtain ⟨a, e, g⟩ := h
    exact ⟨a, e, SqT_same s g⟩
def inView (w : Vw) (o : Int) : Bool := match w with
  | none => true
  | some (_, n) => decide (o < n)
def goneK (n : Int) : List Key := [.inr "gone", .inl n]
theorem goneK_ok {n : Int} : KOk (goneK n) := by
  intro x hx s hs
  rcases List.mem_cons.mp hx with rfl | hx
  · cases hs; decide +kernel
  · rw [List.mem_singleton.mp hx] at hs; cases hs
def hidL (rs : List Rc) (k : List Key) (o : Int) (w : Vw) : Bool := if word k = "told" then false else (rowsL rs (goneK (spaceK k))).any fun x => decide (o < x.1) && inView w x.1
/-- a topic of a namespace -/
def TForm (k : List Key) : Prop := ∃ w n r, k = Sum.inr w :: Sum.inl n :: r
def spLHidden (K : PySem.W.Frag) : Sp := fun vs H Q _ => ∃ (a tt : Addr) (ts : List Addr) (rs : List Rc) (k : List Key) (o : Int) (v : V) (w : Vw), vs = [.ref a, .ref tt, .int o, v] ∧ SqL K H a (ts.map V.ref) ∧ Paired (RecAt K H) ts rs ∧ rs.length ≤ 100 ∧ (∀ r ∈ rs, RGood r) ∧ TopAt K H tt k ∧ TForm k ∧ ViewAt K H v w ∧
  ∀ H', Same H H' → Q (.bl (hidL rs k o w)) H'
theorem int_dec {a b : Int} : decide (V.int a = V.int b) = decide (a = b) := by
  by_cases z : a = b
  · rw [decide_eq_true z, decide_eq_true (by rw [z])]
  · rw [decide_eq_false z, decide_eq_false fun y => z (by cases y; rfl)]
section
variable {P : Program} {wd : World} {K : PySem.W.Frag} {mg : Str → Option Value} {base : Heap} {f fR : Addr} {fd fdR : FuncData}
end
end Sg

set_option Elab.async false
set_option linter.all false
set_option maxRecDepth 100000
set_option maxHeartbeats 4000000
namespace Sg
open PySem PySem.Spec PyProof.Rows L2
/-- [x for x in a list if ..]: what is left, in its order -/
theorem lc_filtL {K : PySem.W.Frag} {σ : L2.St} {H1 : Hp} {D a : Addr} {vs : List Nat} {j : Nat} {xs : List V} {tt : TT} {te : TE} {Qd : Hp → Prop} (f : V → Bool) (hD : H1 D = Option.none) (hx : SqL K H1 a xs) (hw : ∀ x, wipe ((wipe σ vs).set j (some x)) vs = wipe σ vs) (hz : xs.length ≤ sizeLine)
    (he : ∀ (x : V) (H' : Hp) (Q' : Bool → Hp → Prop), x ∈ xs → Same H1 H' → (∀ H'', Same H' H'' → Q' (f x) H'') → tt ((wipe σ vs).set j (some x)) H' Q')
    (hv : ∀ (x : V) (H' : Hp) (Q' : VK), x ∈ xs → Q' x H' → te ((wipe σ vs).set j (some x)) H' Q')
    (hd : ∀ H', Same H1 H' → H' D = some (.lst (xs.filter f)) → Qd H') :
    ∃ W : Nat → Nat → Hp → Prop, (∃ m, W 0 m (upd H1 D (.lst []))) ∧ ∀ i m H, W i m H →
      ((Itl K a).stop i H ∧ Qd H) ∨ ((Itl K a).go i H ∧ ∃ Nx : Hp → Prop, (∀ H', Nx H' → ∃ m', m' < m ∧ W (i + 1) m' H') ∧ ∀ x H', (Itl K a).yld i H x H' → gName j x (wipe σ vs) H' fun σ2 H2 => wipe σ2 vs = wipe σ vs ∧ tt σ2 H2 fun b H3 =>
        if b = true then te σ2 H3 fun y H4 => ∃ acc, H4 D = some (.lst acc) ∧ acc.length < sizeLine ∧ Nx (upd H4 D (.lst (acc ++ [y]))) else Nx H3) := by
  refine lc_list (K := K) (a := a) (xs := xs) (fun i H' => i ≤ xs.length ∧ Same H1 H' ∧ H' D = some (.lst ((xs.take i).filter f))) ⟨Nat.zero_le _, same_new hD, by rw [List.take_zero]; exact upd_same⟩ (fun i H' _ ⟨_, sm, _⟩ => sm.seq hx) ?_ ?_
  · rintro i x H' hi ⟨_, sm, hDl⟩
    have hil := (List.getElem?_eq_some_iff.mp hi).1
    have hm := List.mem_of_getElem? hi
    refine ⟨hw _, he x H' _ hm sm fun H'' s2 => ?_⟩
    have hD2 := s2 _ _ hDl
    have hlen : ((xs.take i).filter f).length ≤ i := Nat.le_trans (List.length_filter_le _ _) (by rw [List.length_take]; omega)
    cases hf : f x with
    | true =>
      rw [if_pos rfl]
      refine hv x H'' _ hm ⟨_, hD2, by omega, by omega, ?_, ?_⟩
      · intro y o hy'
        rw [upd_ne (ne_of_none hy' hD)]
        exact s2 _ _ (sm _ _ hy')
      · rw [upd_same, List.take_add_one, hi, List.filter_append]
        simp [hf]
    | false =>
      rw [if_neg Bool.false_ne_true]
      refine ⟨by omega, sm.trans s2, ?_⟩
      rw [hD2, List.take_add_one, hi, List.filter_append]
      simp [hf]
  · rintro H' ⟨_, sm, hDl⟩
    exact hd H' sm (by rw [List.take_length] at hDl; exact hDl)
/-- the order of a row in the heap -/
def ordOf (H : Hp) : V → Int
  | .ref p => match H p with
    | some (.tup (.int o :: _)) => o
    | _ => 0
  | _ => 0
theorem ord_at {H : Hp} {p : Addr} {o : Int} {v : V} (h : H p = some (.tup [.int o, v])) : ordOf H (.ref p) = o := by
  show (match H p with
    | some (.tup (.int o :: _)) => o
    | _ => 0) = o
  rw [h]
theorem paired_filt {K : PySem.W.Frag} {H : Hp} {g : Int → Bool} : ∀ {ps : List Addr} {xs : List Rw}, Paired (RowAt K H) ps xs → ∃ ps' : List Addr, (ps.map V.ref).filter (fun v => g (ordOf H v)) = ps'.map V.ref ∧ Paired (RowAt K H) ps' (xs.filter fun x => g x.1)
  | _, _, .nil => ⟨[], rfl, .nil⟩
  | _, _, .cons (a := p) (b := x) h t => by
    obtain ⟨ps', e, pr⟩ := paired_filt (g := g) t
    obtain ⟨v, a1, a2⟩ := id h
    have eo : ordOf H (.ref p) = x.1 := ord_at a1
    cases c : g x.1 with
    | true => exact ⟨p :: ps', by rw [List.map_cons, List.filter_cons, eo, c, if_pos rfl, e]; rfl, by rw [List.filter_cons, c, if_pos rfl]; exact .cons h pr⟩
    | false => exact ⟨ps', by rw [List.map_cons, List.filter_cons, eo, c, if_neg (by decide)]; exact e, by rw [List.filter_cons, c, if_neg (by decide)]; exact pr⟩
theorem paired_rsame {K : PySem.W.Frag} {H H' : Hp} (s : Same H H') {ps : List Addr} {xs : List Rw} (h : Paired (RowAt K H) ps xs) : Paired (RowAt K H') ps xs := Paired.imp2 (fun _ _ z => z.same s) h
def noneQ : PyData → Bool
  | .none => true
  | _ => false
def vrows (rs : List Rc) (k : List Key) (w : Vw) : List Rw := (rowsL rs k).filter fun x => inView w x.1
/-- what is live of a topic in a view -/
def byTop (rs : List Rc) (k : List Key) (w : Vw) : List Int := match (vrows rs k w).getLast? with
  | none => []
  | some x => if hidL rs k x.1 w = true then [] else if noneQ x.2 = true ∧ (vrows rs k w).length = 1 then [] else [x.1]
theorem effB_g {r : Rc} (g : RGood r) : ∀ e ∈ effB r.o r.h r.b, GD 60 e.2 := by
  intro e he
  have ht := effB_t g e he
  obtain ⟨o, h, s, c, b⟩ := r
  have wi : ∀ (w : Str) (h : Int), PyData.strOk w = true → GD 60 (.tuple [.int h, .str w]) := fun w h hw => (gd_tup2 (n := 0) gd_int ⟨rfl, by simpa [PyData.canLay0] using hw, by simp [PyData.depth]⟩).mono (by decide)
  have gl := g.l
  have gd := g.dp
  cases b with
  | mark d =>
    simp only [effB, List.mem_cons, List.not_mem_nil, or_false] at he
    subst he
    simp only [recDt, fldD, PyData.canLay0, PyData.canLayAll0, PyData.depth, PyData.depthAll, Bool.and_eq_true] at gl gd
    exact ⟨ht, gl.2.2.2.2.2.1, by show d.depth ≤ 60; omega⟩
  | leave n hb => cases hb <;> simp only [effB, List.mem_cons, List.not_mem_nil, or_false] at he <;> (try rcases he with rfl | rfl) <;> (try subst he) <;> exact gd_none
  | preempt n v w =>
    cases w with
    | none => simp only [effB, List.mem_cons, List.not_mem_nil, or_false] at he; subst he; exact gd_none
    | some w =>
      simp only [recDt, fldD, wayD, PyData.canLay0, PyData.canLayAll0, Bool.and_eq_true] at gl
      simp only [effB, List.mem_cons, List.not_mem_nil, or_false] at he
      rcases he with rfl | rfl
      · exact gd_none
      · exact wi w h gl.2.2.2.2.2.2.2.1
  | reserve n w =>
    simp only [recDt, fldD, PyData.canLay0, PyData.canLayAll0, Bool.and_eq_true] at gl
    simp only [effB, List.mem_cons, List.not_mem_nil, or_false] at he
    subst he
    exact wi w h gl.2.2.2.2.2.2.1
  | _ =>
    simp only [effB, List.mem_cons, List.not_mem_nil, or_false] at he
    subst he
    first | exact gd_int | exact gd_none
theorem rowsL_g {rs : List Rc} {k : List Key} (g : ∀ r ∈ rs, RGood r) : ∀ x ∈ rowsL rs k, GD 60 x.2 := by
  intro x hx
  obtain ⟨l, hl, hx⟩ := List.mem_flatten.mp hx
  obtain ⟨r, hr, rfl⟩ := List.mem_map.mp hl
  obtain ⟨e, he, h⟩ := List.mem_filterMap.mp hx
  split at h
  · cases h; exact effB_g (g r hr) e he
  · cases h
def rowDt (x : Rw) : PyData := .tuple [.int x.1, x.2]
theorem rows_dpT {K : PySem.W.Frag} {H : Hp} : ∀ {ps : List Addr} {xs : List Rw}, Paired (RowAt K H) ps xs → DpAll K H (ps.map V.ref) (xs.map rowDt)
  | _, _, .nil => .nil
  | _, _, .cons ⟨_, a, b⟩ t => .cons (.tup (SqT.of a) (.cons (.int _) (.cons b .nil))) (rows_dpT t)
theorem rows_layT : ∀ {xs : List Rw}, (∀ x ∈ xs, GD 60 x.2) → PyData.canLayAll0 (xs.map rowDt) = true ∧ PyData.depthAll (xs.map rowDt) ≤ 61
  | [], _ => ⟨by simp [PyData.canLayAll0], by simp [PyData.depthAll]⟩
  | x :: xs, h => by
    obtain ⟨i1, i2⟩ := rows_layT (xs := xs) fun y hy => h y (List.mem_cons_of_mem _ hy)
    have g := gd_tup2 (gd_int (n := 60) (i := x.1)) (h x List.mem_cons_self)
    refine ⟨by simp only [List.map_cons, PyData.canLayAll0, i1, Bool.and_true]; exact g.l, ?_⟩
    have := g.dp
    simp only [List.map_cons, PyData.depthAll]
    show max (rowDt x).depth _ ≤ 61
    exact Nat.max_le.mpr ⟨this, i2⟩
end Sg

set_option Elab.async false
set_option linter.all false
set_option maxRecDepth 100000
set_option maxHeartbeats 4000000
namespace Sg
open PySem PySem.Spec PyProof.Rows L2
def spLByTopic (K : PySem.W.Frag) : Sp := fun vs H Q _ => ∃ (a tt : Addr) (ts : List Addr) (rs : List Rc) (k : List Key) (v : V) (w : Vw), vs = [.ref a, .ref tt, v] ∧ SqL K H a (ts.map V.ref) ∧ Paired (RecAt K H) ts rs ∧ rs.length ≤ 100 ∧ (∀ r ∈ rs, RGood r) ∧ TopAt K H tt k ∧ TForm k ∧ KOk k ∧ ViewAt K H v w ∧
  ∀ l H', Same H H' → H l = Option.none → H' l = some (.lst ((byTop rs k w).map V.int)) → Q (.ref l) H'
theorem paired_last {K : PySem.W.Frag} {H : Hp} {xs : List Rw} {x : Rw} : ∀ {ps : List Addr}, Paired (RowAt K H) ps (xs ++ [x]) → ∃ qs p, ps = qs ++ [p] ∧ RowAt K H p x := by
  induction xs with
  | nil =>
    intro ps h
    cases h with
    | cons a b => cases b; exact ⟨[], _, rfl, a⟩
  | cons y ys ih =>
    intro ps h
    cases h with
    | cons a b =>
      obtain ⟨qs, p, e, g⟩ := ih b
      exact ⟨_ :: qs, p, by rw [e]; rfl, g⟩
theorem dp_noneQ {K : PySem.W.Frag} {H : Hp} {v : V} {d : PyData} (h : Dp K H v d) : decide (v = .non) = noneQ d := by
  cases h <;> first | rfl | exact decide_eq_false (by intro z; cases z)
section
variable {P : Program} {wd : World} {K : PySem.W.Frag} {mg : Str → Option Value} {base : Heap} {f fR fH : Addr} {fd fdR fdH : FuncData}
end
end Sg

set_option Elab.async false
set_option linter.all false
set_option maxRecDepth 100000
set_option maxHeartbeats 4000000
/-! sorted(xs) of tuples whose first parts, whole numbers, are different: whatever stands behind them -/
namespace Sg
open PySem PySem.W PyProof.Rows
def hdI : PyData → Int
  | .tuple (.int k :: _) => k
  | _ => 0
structure HeadsOk (ds : List PyData) : Prop where
  form : ∀ d ∈ ds, ∃ k r, d = .tuple (.int k :: r)
  one : ∀ d ∈ ds, ∀ e ∈ ds, hdI d = hdI e → d = e
  self : ∀ d ∈ ds, alike d d = true
theorem first_of {h : Heap} {v : Value} {k : Int} {r : List PyData} {as : List Addr} (hr : Reads h v (.tuple (.int k :: r)) as) :
    ∃ a o xs n t, v = .ref a ∧ h.get? a = some o ∧ o.cls = .type "tuple" ∧ o.data = .seq xs n ∧ xs[0]? = some (.int k t) := by
  cases hr with
  | @tuple a o xs n _ _ g1 g2 g3 g4 =>
    cases q : xs.toList with
    | nil => rw [q] at g4; cases g4
    | cons f fr =>
      rw [q] at g4
      cases g4 with
      | cons z _ =>
        cases z
        exact ⟨a, o, xs, n, _, rfl, g1, g2, g3, by rw [← Array.getElem?_toList, q]; rfl⟩
theorem head_one {h : Heap} {v : Value} {d e : PyData} {as bs : List Addr} (hd : ∃ k r, d = .tuple (.int k :: r)) (he : ∃ k r, e = .tuple (.int k :: r)) (rd : Reads h v d as) (re : Reads h v e bs) : hdI d = hdI e := by
  obtain ⟨k, r, rfl⟩ := hd
  obtain ⟨k', r', rfl⟩ := he
  obtain ⟨a, o, xs, n, t, rfl, a1, a2, a3, a4⟩ := first_of rd
  obtain ⟨b, p, ys, m, u, eb, b1, b2, b3, b4⟩ := first_of re
  cases eb
  rw [a1] at b1
  cases b1
  rw [a3] at b3
  cases b3
  rw [a4] at b4
  cases b4
  rfl
noncomputable def headKind (h : Heap) (ds : List PyData) : PyProof.Rows.KeyKind where
  toKeyOrd := listOrd itemOrd
  keyOf v := open Classical in if z : ∃ d ∈ ds, ∃ bs, Reads h v d bs then some (keyToks (.int (hdI z.choose))) else none
  dflt := List.nil
theorem headKind_at {h : Heap} {ds : List PyData} (ho : HeadsOk ds) {v : Value} {d : PyData} {as : List Addr} (hd : d ∈ ds) (r : Reads h v d as) : (headKind h ds).keyOf v = some (keyToks (.int (hdI d))) := by
  have z : ∃ d ∈ ds, ∃ bs, Reads h v d bs := ⟨d, hd, as, r⟩
  show (open Classical in if z : ∃ d ∈ ds, ∃ bs, Reads h v d bs then some (keyToks (.int (hdI z.choose))) else none) = _
  rw [dif_pos z]
  obtain ⟨h1, bs, h2⟩ := z.choose_spec
  rw [head_one (ho.form _ h1) (ho.form _ hd) h2 r]
theorem headKind_of {h : Heap} {ds : List PyData} (ho : HeadsOk ds) {v : Value} {k : List (Int ⊕ List Nat)} (e : (headKind h ds).keyOf v = some k) : ∃ d as, d ∈ ds ∧ Reads h v d as ∧ k = keyToks (.int (hdI d)) := by
  by_cases z : ∃ d ∈ ds, ∃ bs, Reads h v d bs
  · obtain ⟨d, hd, bs, r⟩ := z
    rw [headKind_at ho hd r] at e
    exact ⟨d, bs, hd, r, (Option.some.inj e).symm⟩
  · have : (headKind h ds).keyOf v = none := by
      show (open Classical in if z : ∃ d ∈ ds, ∃ bs, Reads h v d bs then some (keyToks (.int (hdI z.choose))) else none) = _
      rw [dif_neg z]; rfl
    rw [this] at e; cases e
section
variable {prog : Program} {w : World} {A : Around} {s : Shared}
theorem sortsHeads {vs : List Value} {ds : List PyData} (e : EachIs (fun v d => ∃ as, Reads s.heap v d as) vs ds) (ho : HeadsOk ds) (hu : ∀ d ∈ ds, A.units + d.depth < cLine) : SortsAt prog w A s (headKind s.heap ds) vs := by
  refine ⟨fun v hv => ?_, tuples' true, ?_, fun h2 E Q hq => ?_⟩
  · obtain ⟨d, hd, as, r⟩ := e.left v hv
    exact ⟨_, headKind_at ho hd r⟩
  · intro E x y a b Q ha hb hq
    obtain ⟨d, as, hd, ra, rfl⟩ := headKind_of ho ha
    obtain ⟨d', bs, hd', rb, rfl⟩ := headKind_of ho hb
    have hq' : Q (dataLt (.int (hdI d)) (.int (hdI d'))) s := hq
    have hroom : A.units + min d.depth d'.depth < cLine := Nat.lt_of_le_of_lt (Nat.add_le_add_left (Nat.min_le_left _ _) _) (hu d hd)
    by_cases c : hdI d = hdI d'
    · obtain rfl := ho.one _ hd _ hd' c
      obtain ⟨k, r, rfl⟩ := ho.form _ hd
      have al := ho.self _ hd
      rw [show dataLt (.int (hdI (.tuple (.int k :: r)))) (.int (hdI (.tuple (.int k :: r)))) = false from lex_irrefl _] at hq'
      cases ra with
      | @tuple l o xs n _ _ g1 g2 g3 g4 =>
        cases rb with
        | @tuple l' o' ys m _ _ k1 k2 k3 k4 =>
          have n1 : xs.size = (PyData.int k :: r).length := by simpa using SeqAt.ReadsAll.length _ _ _ g4
          have n2 : ys.size = (PyData.int k :: r).length := by simpa using SeqAt.ReadsAll.length _ _ _ k4
          refine kat_lt g1 g3 k1 k3 (katLex_alike _ _ 0 _ _ _ _ g4 k4 (by simpa [alike] using al) (by have z := SeqAt.room_in hroom; omega) (fun _ _ x r' t ex => ?_) (by rw [n1, n2]) (by rw [lex_irrefl]; exact hq'))
          cases ex
          intro z; cases z
    · obtain ⟨k, r, rfl⟩ := ho.form _ hd
      obtain ⟨k', r', rfl⟩ := ho.form _ hd'
      have ck : ¬ k = k' := c
      cases ra with
      | @tuple l o xs n _ _ g1 g2 g3 g4 =>
        cases rb with
        | @tuple l' o' ys m _ _ k1 k2 k3 k4 =>
          refine kat_lt g1 g3 k1 k3 ?_
          generalize xs.toList = xl at g4
          generalize ys.toList = yl at k4
          cases g4 with
          | cons z1 z2 =>
            cases k4 with
            | cons y1 y2 =>
              rw [List.zip_cons_cons]
              have rm : A.units + min (PyData.int k).depth (PyData.int k').depth < cLine := by
                have e0 : min (PyData.int k).depth (PyData.int k').depth = 0 := by simp [PyData.depth]
                rw [e0]; omega
              refine kat_cons (eqAt_alike (.int k) (.int k') A s _ _ _ _ z1 y1 (by simp [alike]) rm prog w _ _ ?_)
              rw [show PyData.eqv (.int k) (.int k') = false by simp [PyData.eqv, ck]]
              exact kat_no (oneLt_alike (fun _ xs z => by cases z) z1 y1 (by simp [alike]) (by intro z; cases z) rm hq')
  · obtain ⟨fs, t1, t2, t3⟩ := each_katTups e fun d hd => by
      obtain ⟨k, r, z⟩ := ho.form d hd
      exact ⟨_, _, z⟩
    refine kat_kind (T := .type "int") t1 (by omega) (fun f hf => ?_) (by decide) hq
    obtain ⟨x, r, as, m1, m2⟩ := t3 f hf
    obtain ⟨k, r', z⟩ := ho.form _ m1
    cases z
    exact looks_reads m2
end
end Sg

set_option Elab.async false
set_option linter.all false
set_option maxRecDepth 100000
set_option maxHeartbeats 4000000
/-! sorted(records), of records in ascending order: the same once more -/
namespace Sg
open PySem PySem.Spec PyProof.Rows L2
def rSortRc (K : PySem.W.Frag) : List V → Hp → VK → Prop := fun vs H Q => ∃ (a : Addr) (ts : List Addr) (rs : List Rc), vs = [.ref a] ∧ SqL K H a (ts.map V.ref) ∧ Paired (RecAt K H) ts rs ∧ (∀ r ∈ rs, RGood r) ∧ rs.Pairwise (fun x y => x.o < y.o) ∧
  ∀ p, H p = Option.none → Q (.ref p) (upd H p (.lst (ts.map V.ref)))
mutual
theorem alike_self : ∀ (d : PyData), tupO d = true → PySem.W.alike d d = true
  | .none, _ => by simp [PySem.W.alike]
  | .bool _, _ => by simp [PySem.W.alike]
  | .int _, _ => by simp [PySem.W.alike]
  | .str _, _ => by simp [PySem.W.alike]
  | .tuple ds, h => by
    simp only [PySem.W.alike]
    exact alike_selfs ds (by simpa [tupO] using h)
  | .list _, h => by simp [tupO] at h
  | .dict _, h => by simp [tupO] at h
theorem alike_selfs : ∀ (ds : List PyData), tupOs ds = true → PySem.W.alikeAll ds ds = true
  | [], _ => by simp [PySem.W.alikeAll]
  | d :: ds, h => by
    have g : tupO d = true ∧ tupOs ds = true := by simpa [tupOs] using h
    simp only [PySem.W.alikeAll, alike_self d g.1, alike_selfs ds g.2, Bool.and_self]
end
theorem rts_zip {K : PySem.W.Frag} {H : Hp} : ∀ {ts : List Addr} {rs : List Rc}, Paired (RecAt K H) ts rs → ∀ b ∈ ts.zip rs, RecAt K H b.1 b.2
  | _, _, .nil, b, hb => by simp at hb
  | _, _, .cons r t, b, hb => by
    rw [List.zip_cons_cons] at hb
    rcases List.mem_cons.mp hb with rfl | hb
    · exact r
    · exact rts_zip t b hb
theorem zip_s {α β : Type} : ∀ {a : List α} {b : List β}, a.length = b.length → (a.zip b).map Prod.snd = b ∧ (a.zip b).map Prod.fst = a
  | [], [], _ => ⟨rfl, rfl⟩
  | x :: a, y :: b, h => by
    obtain ⟨p, q⟩ := zip_s (a := a) (b := b) (by simpa using h)
    rw [List.zip_cons_cons, List.map_cons, List.map_cons, p, q]
    exact ⟨rfl, rfl⟩
theorem zip_vals {bs : List (Addr × Rc)} : ∀ {vs : List Value}, Vals (bs.map fun b => V.ref b.1) vs → PySem.W.EachIs (fun v (b : Addr × Rc) => v = Value.ref b.1) vs bs := by
  induction bs with
  | nil => intro vs r; cases r; exact .nil
  | cons t ts ih =>
    intro vs r
    cases r with
    | cons r1 r2 => exact .cons r1 (ih r2)
theorem vals_zip : ∀ {vs : List Value} {bs : List (Addr × Rc)}, PySem.W.EachIs (fun v (b : Addr × Rc) => v = Value.ref b.1) vs bs → Vals (bs.map fun b => V.ref b.1) vs
  | _, _, .nil => .nil
  | _, _, .cons r t => .cons r (vals_zip t)
theorem zip_reads {X : Cx} {pins : List (Addr × Obj)} {σ : L2.St} {H : Hp} {s : Shared} (I : Inv X pins σ H s) : ∀ {bs : List (Addr × Rc)} {vs : List Value}, Vals (bs.map fun b => V.ref b.1) vs → (∀ b ∈ bs, RecAt X.K H b.1 b.2) →
    PySem.W.EachIs (fun v (b : Addr × Rc) => ∃ as, Reads s.heap v (recDt b.2) as) vs bs
  | [], _, .nil, _ => .nil
  | b :: bs, _, .cons r q, h => .cons (Dp.reads I _ _ _ (RecAt.dp (h b List.mem_cons_self)) r) (zip_reads I q fun u hu => h u (List.mem_cons_of_mem _ hu))
theorem each_mapE {α β γ : Type} {R : α → γ → Prop} (g : β → γ) : ∀ {as : List α} {bs : List β}, PySem.W.EachIs (fun a b => R a (g b)) as bs → PySem.W.EachIs R as (bs.map g)
  | _, _, .nil => .nil
  | _, _, .cons h t => .cons h (each_mapE g t)
section
variable {X : Cx}
theorem call_sortRc (hu : X.A.units + 64 < cLine) : CallR X (.builtin "sorted") (rSortRc X.K) := by
  intro pins s σ H vs us Q I r h
  obtain ⟨a, ts, rs, rfl, hs, hr, hg, hpw, q⟩ := h
  obtain ⟨z1, z2⟩ := zip_s hr.length
  have hb := rts_zip hr
  rw [← z2, List.map_map] at hs
  obtain ⟨its, rv, hl, hz⟩ := I.list hs
  obtain ⟨u, rfl, ru⟩ := vals1 r
  obtain rfl : u = Value.ref a := ru
  rw [List.length_map] at hz
  have hgb : ∀ b ∈ ts.zip rs, RGood b.2 := fun b hb' => hg _ (by rw [← z1]; exact List.mem_map.mpr ⟨b, hb', rfl⟩)
  have hpb : (ts.zip rs).Pairwise fun x y => x.2.o < y.2.o := by
    have z : ((ts.zip rs).map Prod.snd).Pairwise (fun x y : Rc => x.o < y.o) := by rw [z1]; exact hpw
    exact (List.pairwise_map (f := Prod.snd) (R := fun x y : Rc => x.o < y.o)).mp z
  generalize hbs : ts.zip rs = bs at *
  have rv' : Vals (bs.map fun b => V.ref b.1) its := rv
  have ez := zip_vals rv'
  have er := zip_reads I rv' hb
  have hlen : its.length = bs.length := ez.length
  have er' : PySem.W.EachIs (fun v (b : Addr × Rc) => ∃ as, Reads (PySem.W.sortingHeap (PySem.W.copyHeap s.heap its) (s.heap.objs.size + 1) its) v (recDt b.2) as) its bs := er.mono fun _ _ ⟨as, r⟩ => ⟨as, PyProof.Rows.Reads.keeps (fun _ _ => PySem.W.sorting_copy_old) r⟩
  have ho : HeadsOk (bs.map fun b => recDt b.2) := by
    refine ⟨fun d hd => ?_, fun d hd e he c => ?_, fun d hd => ?_⟩
    · obtain ⟨b, _, rfl⟩ := List.mem_map.mp hd
      exact ⟨_, _, rfl⟩
    · obtain ⟨b, hb1, rfl⟩ := List.mem_map.mp hd
      obtain ⟨b', hb2, rfl⟩ := List.mem_map.mp he
      have c' : b.2.o = b'.2.o := c
      obtain ⟨i, hi⟩ := List.mem_iff_getElem?.mp hb1
      obtain ⟨j, hj⟩ := List.mem_iff_getElem?.mp hb2
      obtain ⟨i1, i2⟩ := List.getElem?_eq_some_iff.mp hi
      obtain ⟨j1, j2⟩ := List.getElem?_eq_some_iff.mp hj
      have P := List.pairwise_iff_getElem.mp hpb
      rcases Nat.lt_trichotomy i j with l | l | l
      · have := P i j i1 j1 l; rw [i2, j2] at this; omega
      · subst l; rw [i2] at j2; rw [j2]
      · have := P j i j1 i1 l; rw [i2, j2] at this; omega
    · obtain ⟨b, hb1, rfl⟩ := List.mem_map.mp hd
      refine alike_self _ ?_
      have g := (hgb b hb1).t
      show (true && (true && (true && (true && (true && tupOs (fldD b.2.b)))))) = true
      rw [g]; rfl
  refine PySem.W.sorted_vals hl.isList (sortsHeads (s := { s with heap := PySem.W.sortingHeap (PySem.W.copyHeap s.heap its) (s.heap.objs.size + 1) its }) (each_mapE (fun b : Addr × Rc => recDt b.2) er') ho fun d hd => ?_) (by rw [hlen]; exact hz) ?_
  · obtain ⟨b, hb1, rfl⟩ := List.mem_map.mp hd
    have := (hgb b hb1).dp
    show X.A.units + 2 + (recDt b.2).depth < cLine
    omega
  · have hk : PySem.W.EachIs (fun v (b : Addr × Rc) => (headKind (PySem.W.sortingHeap (PySem.W.copyHeap s.heap its) (s.heap.objs.size + 1) its) (bs.map fun b => recDt b.2)).keyOf v = some (PySem.W.keyToks (.int b.2.o))) its bs :=
      (PySem.W.each_mem er').mono fun v b ⟨⟨as, r⟩, hb1⟩ => headKind_at ho (List.mem_map.mpr ⟨b, hb1, rfl⟩) r
    have eo := PySem.W.sortVals_each (κ := (headKind (PySem.W.sortingHeap (PySem.W.copyHeap s.heap its) (s.heap.objs.size + 1) its) (bs.map fun b => recDt b.2))) (rev := false) (fun b : Addr × Rc => PySem.W.keyToks (.int b.2.o)) ez hk
    have es : bs.mergeSort (PySem.W.sortLe (headKind (PySem.W.sortingHeap (PySem.W.copyHeap s.heap its) (s.heap.objs.size + 1) its) (bs.map fun b => recDt b.2)).toKeyOrd false fun b : Addr × Rc => PySem.W.keyToks (.int b.2.o)) = bs := by
      refine List.mergeSort_of_pairwise (hpb.imp fun {x y} h => ?_)
      show (!PySem.W.dataLt (.int y.2.o) (.int x.2.o)) = true
      rw [PySem.W.dataLt_int, decide_eq_false (by omega)]; rfl
    rw [es] at eo
    generalize PySem.W.sortVals (headKind (PySem.W.sortingHeap (PySem.W.copyHeap s.heap its) (s.heap.objs.size + 1) its) (bs.map fun b => recDt b.2)) false its its = out at eo
    obtain ⟨ep, he'⟩ := sortedAll_at s.heap its out.toArray
    have hv := vals_zip eo
    have hll : (bs.map fun b => V.ref b.1).length ≤ sizeLine := by rw [List.length_map]; exact hz
    have ec : (bs.map fun b => V.ref b.1) = ts.map V.ref := by rw [← z2, List.map_map]; rfl
    refine ⟨.ref _, upd H (s.heap.objs.size + 1) (.lst (bs.map fun b => V.ref b.1)), I.laid (t' := s.toks) (fun _ _ => sortedAll_old) (Nat.le_succ _) ⟨hll, out, ep, hv, he'⟩, rfl, ?_⟩
    rw [ec]
    exact q _ (I.hok.fresh (Nat.le_succ _))
end
end Sg

set_option Elab.async false
set_option linter.all false
set_option maxRecDepth 100000
set_option maxHeartbeats 4000000
namespace Sg
open PySem PySem.Spec PyProof.Rows L2
/-! ### the value of a topic at present -/
def valStep (k : List Key) (v : PyData) (e : Ef) : PyData := if e.1 = goneK (spaceK k) ∧ word k ≠ "gone" ∧ word k ≠ "told" then .none else if e.1 = k then e.2 else v
def valL (rs : List Rc) (k : List Key) : PyData := (effsL rs).foldl (valStep k) .none
theorem valStep_t {k : List Key} {v : PyData} {e : Ef} (hv : tupO v = true) (he : tupO e.2 = true) : tupO (valStep k v e) = true := by
  unfold valStep
  split
  · rfl
  · split
    · exact he
    · exact hv
theorem valF_t {k : List Key} : ∀ {es : List Ef} {v : PyData}, tupO v = true → (∀ e ∈ es, tupO e.2 = true) → tupO (es.foldl (valStep k) v) = true
  | [], _, h, _ => h
  | e :: es, _, h, g => valF_t (es := es) (valStep_t h (g e List.mem_cons_self)) fun x hx => g x (List.mem_cons_of_mem _ hx)
def spLValue (K : PySem.W.Frag) : Sp := fun vs H Q _ => ∃ (a tt : Addr) (ts : List Addr) (rs : List Rc) (k : List Key), vs = [.ref a, .ref tt, .non] ∧ SqL K H a (ts.map V.ref) ∧ Paired (RecAt K H) ts rs ∧ rs.length ≤ 100 ∧ (∀ r ∈ rs, RGood r) ∧ rs.Pairwise (fun x y => x.o < y.o) ∧ TopAt K H tt k ∧ TForm k ∧ KOk k ∧
  ∀ v H', Same H H' → Dp K H' v (valL rs k) → Q v H'
section
variable {P : Program} {wd : World} {K : PySem.W.Frag} {mg : Str → Option Value} {base : Heap} {f fL : Addr} {fd fdL : FuncData}
end
end Sg

set_option Elab.async false
set_option linter.all false
set_option maxRecDepth 100000
set_option maxHeartbeats 4000000
namespace Sg
open PySem PySem.Spec PyProof.Rows L2
/-! ### the snapshots that exist -/
def thirdK (k : List Key) : Int := match k with
  | _ :: _ :: .inl m :: _ => m
  | _ => 0
def SForm (k : List Key) : Prop := word k = "snap" → ∃ n m, k = [(.inr ("snap" : Str) : Key), .inl n, .inl m]
theorem wne {w : Str} {r : List Key} (h : ¬ w = "snap") : ¬ word (.inr w :: r) = "snap" := h
theorem effB_s {o h : Int} {b : Bd} : ∀ e ∈ effB o h b, SForm e.1 := by
  intro e he hw
  cases b with
  | leave n hb => cases hb <;> simp only [effB, List.mem_cons, List.not_mem_nil, or_false] at he <;> (try rcases he with rfl | rfl) <;> (try subst he) <;> exact absurd hw (wne (by decide))
  | preempt n v w => cases w <;> simp only [effB, List.mem_cons, List.not_mem_nil, or_false] at he <;> (try rcases he with rfl | rfl) <;> (try subst he) <;> exact absurd hw (wne (by decide))
  | _ => simp only [effB, List.mem_cons, List.not_mem_nil, or_false] at he; subst he; first | exact ⟨_, _, rfl⟩ | exact absurd hw (wne (by decide))
theorem foldT_all {p : List Key → Prop} : ∀ {es : List Ef} {ts : Tops}, (∀ k ∈ ts, p k) → (∀ e ∈ es, p e.1) → ∀ k ∈ es.foldl addT ts, p k
  | [], _, h, _ => h
  | e :: es, ts, h, g => by
    refine foldT_all (es := es) (ts := addT ts e) ?_ fun x hx => g x (List.mem_cons_of_mem _ hx)
    unfold addT
    split
    · exact h
    · intro k hk
      rcases List.mem_append.mp hk with hk | hk
      · exact h k hk
      · rw [List.mem_singleton.mp hk]; exact g e List.mem_cons_self
theorem effsL_all {p : Ef → Prop} {rs : List Rc} (h : ∀ r ∈ rs, ∀ e ∈ effB r.o r.h r.b, p e) : ∀ e ∈ effsL rs, p e := by
  intro e he
  obtain ⟨l, hl, he⟩ := List.mem_flatten.mp he
  obtain ⟨r, hr, rfl⟩ := List.mem_map.mp hl
  exact h r hr e he
theorem topicsL_form {rs : List Rc} : ∀ k ∈ topicsL rs, TForm k := foldT_all (by intro k hk; cases hk) (effsL_all fun r _ => effB_form)
theorem topicsL_s {rs : List Rc} : ∀ k ∈ topicsL rs, SForm k := foldT_all (by intro k hk; cases hk) (effsL_all fun r _ => effB_s)
theorem foldT_len : ∀ {es : List Ef} {ts : Tops}, (es.foldl addT ts).length ≤ ts.length + es.length
  | [], _ => Nat.le_refl _
  | e :: es, ts => by
    have h1 := foldT_len (es := es) (ts := addT ts e)
    have h2 : (addT ts e).length ≤ ts.length + 1 := addT_len
    simp only [List.foldl_cons, List.length_cons] at *
    omega
theorem effsL_len : ∀ {rs : List Rc}, (effsL rs).length ≤ 2 * rs.length
  | [] => by simp [effsL]
  | r :: rs => by
    have h1 := effsL_len (rs := rs)
    have h2 : (effB r.o r.h r.b).length ≤ 2 := effB_len
    have e : effsL (r :: rs) = effB r.o r.h r.b ++ effsL rs := by unfold effsL; rw [List.map_cons, List.flatten_cons]
    rw [e, List.length_append, List.length_cons]; omega
theorem topicsL_len {rs : List Rc} : (topicsL rs).length ≤ 2 * rs.length := by
  have h1 := foldT_len (es := effsL rs) (ts := [])
  have h2 := effsL_len (rs := rs)
  unfold topicsL
  simp only [List.length_nil] at h1
  omega
def isView (rs : List Rc) (k : List Key) : Bool := decide (word k = "snap") && !noneQ (valL rs k)
def viewsL (rs : List Rc) : List (Int × Int) := ((topicsL rs).filter (isView rs)).map fun k => (spaceK k, thirdK k)
def PairAtT (H : Hp) (p : Addr) (x : Int × Int) : Prop := H p = some (.tup [.int x.1, .int x.2])
def spLViews (K : PySem.W.Frag) : Sp := fun vs H Q _ => ∃ (a : Addr) (ts : List Addr) (rs : List Rc), vs = [.ref a] ∧ SqL K H a (ts.map V.ref) ∧ Paired (RecAt K H) ts rs ∧ rs.length ≤ 100 ∧ (∀ r ∈ rs, RGood r) ∧ rs.Pairwise (fun x y => x.o < y.o) ∧
  ∀ l (ps : List Addr) H', Same H H' → H l = Option.none → H' l = some (.lst (ps.map V.ref)) → Paired (PairAtT H') ps (viewsL rs) → Q (.ref l) H'
section
variable {P : Program} {wd : World} {K : PySem.W.Frag} {mg : Str → Option Value} {base : Heap} {f fT fV : Addr} {fd fdT fdV : FuncData}
end
end Sg

set_option Elab.async false
set_option linter.all false
set_option maxRecDepth 100000
set_option maxHeartbeats 4000000
namespace Sg
open PySem PySem.Spec PyProof.Rows L2
/-! ### d.setdefault(k, x), the keys tuples -/
section
variable {X : Cx} {pins : List (Addr × Obj)} {σ : L2.St} {H : Hp} {s : Shared} {a b : Addr} {r : Value} {d : V} {A : Around} {E : Value → Shared → Prop}
theorem setdT {kvs : List (List Key × V)} {k : List Key} {Q : Value → Shared → Prop} (hu : A.units + 1 < cLine) (I : L2.Inv X pins σ H s) (e : H a = some (.dT kvs)) (eb : H b = some (.tup (k.map kV))) (rd : L2.RelV d r) (hl : kvs.length < sizeLine)
    (h1 : ∀ v, valV kvs k = some v → ∀ (w' : Value) (s' : Shared), L2.Inv X pins σ H s' → L2.RelV v w' → Q w' s') (h2 : valV kvs k = none → ∀ (w' : Value) (s' : Shared), L2.Inv X pins σ (upd H a (.dT (putK kvs k d))) s' → L2.RelV d w' → Q w' s') :
    wpAny (model X.prog X.w) A (call (.builtin "dict.setdefault") [.ref a, .ref b, r]) Q E s := by
  obtain ⟨z, hd, xs, rel, dd⟩ := dt_of I.hok e
  have hz : xs.length ≤ sizeLine := by rw [← Paired.length rel]; exact z
  have hl2 : (putK kvs k d).length ≤ sizeLine := by have := length_putK kvs k d; omega
  refine call_setdefault_heap (hsz := hz) (tupleKind_room_in1 hu) (key_of I.hok eb) hd dd (fun p hp => ?_) fun hn h' dd' hs => ?_
  · have q := rel.val k
    rw [hp] at q
    cases q0 : valV kvs k with
    | none =>
      rw [q0] at q
      exact (show False from q).elim
    | some v0 =>
      rw [q0] at q
      exact h1 v0 q0 _ _ (I.tok _) q
  · have q := rel.val k
    rw [hn] at q
    cases q0 : valV kvs k with
    | some v0 =>
      rw [q0] at q
      exact (show False from q).elim
    | none =>
      obtain ⟨o, es, ep, hq, h2', h3, h4, _, h5⟩ := dd'
      refine h2 q0 _ _ (d_write I (by rw [e]; exact True.intro) hs ⟨o, hq⟩ ⟨hl2, hd, _, (rel.put k eb rd).keeps fun c ys ec => ?_, o, es, ep, hq, h2', h3, h4, h5⟩) rd
      rw [upd_ne (ne_of ec e (fun z => nomatch z))]
      exact ec
end
def tDSetdT (td ty tx : TE) : TE := fun σ H Q => td σ H fun x H1 => ∃ a, x = .ref a ∧ IsD H1 a ∧ ty σ H1 fun y H2 => tx σ H2 fun z H3 => ∃ (kvs : List (List Key × V)) (k : List Key) (b : Addr), H3 a = some (.dT kvs) ∧ y = .ref b ∧ H3 b = some (.tup (k.map kV)) ∧ kvs.length < sizeLine ∧
  (∀ v, valV kvs k = some v → Q v H3) ∧ (valV kvs k = none → Q z (upd H3 a (.dT (putK kvs k z))))
section
variable {X : Cx} {o e f : Expr} {td ty tx : TE} {apos cpos : Pos}
theorem pe_dsetdT (hu : X.A.units + 1 < cLine) (ho : PE X o td) (he : PE X e ty) (hf : PE X f tx) (m : M2 X o "setdefault" apos e f cpos) : PE X (.Call (.Attribute o "setdefault" apos) [e, f] [] cpos) (tDSetdT td ty tx) := by
  refine ⟨fun pins s σ H Q I h => ?_⟩
  refine wpAny_Call_method m.base m.few m.line PySem.F.plainAttrs_dict PySem.F.slot_dict_setdefault PySem.F.type_dict_setdefault (thn (ho.run pins s σ H _ I h) fun u s1 ⟨x, H1, I1, rx, a, ex, d, q1⟩ => ?_)
  subst ex
  obtain rfl : u = Value.ref a := rx
  obtain ⟨t1, t2, _⟩ := isD_at I1 d
  refine ⟨t1, t2, ?_⟩
  rw [m.trees]
  refine Calls.callWith_builtin rfl (Calls.evalArgs_plain (Calls.spliced_cons (thn (he.run pins s1 σ H1 _ I1 q1) fun iv s2 ⟨y, H2, I2, ry, q2⟩ =>
    Calls.spliced_cons (thn (hf.run pins s2 σ H2 _ I2 q2) fun fv s3 ⟨z, H3, I3, rz, kvs, k, b, ea, ey, eb, hl, q3, q4⟩ => Calls.spliced_nil ?_))))
  subst ey
  obtain rfl : iv = Value.ref b := ry
  exact setdT hu I3 ea eb rz hl (fun v hv w' s4 I4 rw' => ⟨v, _, I4, rw', q3 v hv⟩) fun hn w' s4 I4 rw' => ⟨z, _, I4, rw', q4 hn⟩
end
end Sg

set_option Elab.async false
set_option linter.all false
set_option maxRecDepth 100000
set_option maxHeartbeats 4000000
namespace Sg
open PySem PySem.Spec PyProof.Rows L2
/-! ### what is kept of a list, by a list of truths -/
def keepB {α : Type} : List α → List Bool → List α
  | x :: xs, b :: bs => if b = true then x :: keepB xs bs else keepB xs bs
  | _, _ => []
theorem keepB_take {α : Type} : ∀ {xs : List α} {bs : List Bool} {i : Nat} {x : α} {b : Bool}, xs[i]? = some x → bs[i]? = some b → keepB (xs.take (i + 1)) (bs.take (i + 1)) = keepB (xs.take i) (bs.take i) ++ (if b = true then [x] else [])
  | [], _, _, _, _, h, _ => by cases h
  | _ :: _, [], _, _, _, _, h => by cases h
  | y :: xs, c :: bs, 0, x, b, h, g => by
    cases h; cases g
    cases c <;> simp [keepB]
  | y :: xs, c :: bs, i + 1, x, b, h, g => by
    have ih := keepB_take (xs := xs) (bs := bs) (i := i) (x := x) (b := b) (by simpa using h) (by simpa using g)
    rw [List.take_succ_cons, List.take_succ_cons, List.take_succ_cons, List.take_succ_cons]
    cases c <;> simp [keepB, ih]
theorem keepB_len {α : Type} : ∀ {xs : List α} {bs : List Bool}, (keepB xs bs).length ≤ xs.length
  | [], _ => by simp [keepB]
  | _ :: _, [] => by simp [keepB]
  | y :: xs, c :: bs => by
    have := keepB_len (xs := xs) (bs := bs)
    cases c <;> simp [keepB] <;> omega
theorem keepB_paired {β : Type} {F : Addr → β → Prop} {p : β → Bool} : ∀ {ts : List Addr} {rs : List β}, Paired F ts rs → ∃ ts' : List Addr, keepB (ts.map V.ref) (rs.map p) = ts'.map V.ref ∧ Paired F ts' (rs.filter p)
  | _, _, .nil => ⟨[], rfl, .nil⟩
  | _, _, .cons (a := t) (b := r) h g => by
    obtain ⟨ts', e, pr⟩ := keepB_paired (p := p) g
    cases c : p r with
    | true => exact ⟨t :: ts', by simp only [List.map_cons, keepB, c, if_pos, e], by rw [List.filter_cons, c, if_pos rfl]; exact .cons h pr⟩
    | false => exact ⟨ts', by simp only [List.map_cons, keepB, c, Bool.false_eq_true, if_false, e], by rw [List.filter_cons, c, if_neg (by decide)]; exact pr⟩
/-- [x for x in a list if ..], the truths written beside -/
theorem lc_filtB {K : PySem.W.Frag} {σ : L2.St} {H1 : Hp} {D a : Addr} {vs : List Nat} {j : Nat} {xs : List V} {tt : TT} {te : TE} {Qd : Hp → Prop} (bs : List Bool) (hb : bs.length = xs.length) (hD : H1 D = Option.none) (hx : SqL K H1 a xs) (hw : ∀ x, wipe ((wipe σ vs).set j (some x)) vs = wipe σ vs) (hz : xs.length ≤ sizeLine)
    (he : ∀ (i : Nat) (x : V) (b : Bool) (H' : Hp) (Q' : Bool → Hp → Prop), xs[i]? = some x → bs[i]? = some b → Same H1 H' → (∀ H'', Same H' H'' → Q' b H'') → tt ((wipe σ vs).set j (some x)) H' Q')
    (hv : ∀ (x : V) (H' : Hp) (Q' : VK), x ∈ xs → Q' x H' → te ((wipe σ vs).set j (some x)) H' Q')
    (hd : ∀ H', Same H1 H' → H' D = some (.lst (keepB xs bs)) → Qd H') :
    ∃ W : Nat → Nat → Hp → Prop, (∃ m, W 0 m (upd H1 D (.lst []))) ∧ ∀ i m H, W i m H →
      ((Itl K a).stop i H ∧ Qd H) ∨ ((Itl K a).go i H ∧ ∃ Nx : Hp → Prop, (∀ H', Nx H' → ∃ m', m' < m ∧ W (i + 1) m' H') ∧ ∀ x H', (Itl K a).yld i H x H' → gName j x (wipe σ vs) H' fun σ2 H2 => wipe σ2 vs = wipe σ vs ∧ tt σ2 H2 fun b H3 =>
        if b = true then te σ2 H3 fun y H4 => ∃ acc, H4 D = some (.lst acc) ∧ acc.length < sizeLine ∧ Nx (upd H4 D (.lst (acc ++ [y]))) else Nx H3) := by
  refine lc_list (K := K) (a := a) (xs := xs) (fun i H' => i ≤ xs.length ∧ Same H1 H' ∧ H' D = some (.lst (keepB (xs.take i) (bs.take i)))) ⟨Nat.zero_le _, same_new hD, by rw [List.take_zero, List.take_zero]; exact upd_same⟩ (fun i H' _ ⟨_, sm, _⟩ => sm.seq hx) ?_ ?_
  · rintro i x H' hi ⟨_, sm, hDl⟩
    have hil := (List.getElem?_eq_some_iff.mp hi).1
    have hm := List.mem_of_getElem? hi
    obtain ⟨b, hbi⟩ : ∃ b, bs[i]? = some b := ⟨bs[i]'(by omega), List.getElem?_eq_getElem (by omega)⟩
    refine ⟨hw _, he i x b H' _ hi hbi sm fun H'' s2 => ?_⟩
    have hD2 := s2 _ _ hDl
    have hlen : (keepB (xs.take i) (bs.take i)).length ≤ i := Nat.le_trans keepB_len (by rw [List.length_take]; omega)
    have tk := keepB_take hi hbi
    cases b with
    | true =>
      rw [if_pos rfl]
      rw [if_pos rfl] at tk
      refine hv x H'' _ hm ⟨_, hD2, by omega, by omega, ?_, ?_⟩
      · intro y o hy'
        rw [upd_ne (ne_of_none hy' hD)]
        exact s2 _ _ (sm _ _ hy')
      · rw [upd_same, tk]
    | false =>
      rw [if_neg Bool.false_ne_true]
      rw [if_neg Bool.false_ne_true, List.append_nil] at tk
      refine ⟨by omega, sm.trans s2, ?_⟩
      rw [hD2, tk]
  · rintro H' ⟨_, sm, hDl⟩
    refine hd H' sm ?_
    rw [List.take_length, ← hb, List.take_length] at hDl
    exact hDl
/-! ### the last order of a host -/
theorem snocInd {α : Type} {p : List α → Prop} (h0 : p []) (hs : ∀ l a, p l → p (l ++ [a])) (l : List α) : p l := by
  have : ∀ m : List α, p m.reverse := by
    intro m
    induction m with
    | nil => exact h0
    | cons a t ih => rw [List.reverse_cons]; exact hs _ _ ih
  have z := this l.reverse
  rw [List.reverse_reverse] at z; exact z
def lastO (rs : List Rc) (h : Int) : Option Int := rs.foldl (fun a r => if r.h = h then some r.o else a) none
theorem lastO_snoc {rs : List Rc} {r : Rc} {h : Int} : lastO (rs ++ [r]) h = if r.h = h then some r.o else lastO rs h := by
  unfold lastO
  rw [List.foldl_append]; rfl
theorem lastO_iff {h o : Int} : ∀ {rs : List Rc}, rs.Pairwise (fun x y => x.o < y.o) → (lastO rs h = some o ↔ ∃ r ∈ rs, r.h = h ∧ r.o = o ∧ ∀ q ∈ rs, q.h = h → q.o ≤ o) := by
  intro rs
  refine snocInd (p := fun rs => rs.Pairwise (fun x y => x.o < y.o) → (lastO rs h = some o ↔ ∃ r ∈ rs, r.h = h ∧ r.o = o ∧ ∀ q ∈ rs, q.h = h → q.o ≤ o)) ?_ ?_ rs
  · intro _; simp [lastO]
  · intro rs r ih hp
    rw [List.pairwise_append] at hp
    obtain ⟨h1, _, h2⟩ := hp
    have lt : ∀ q ∈ rs, q.o < r.o := fun q hq => h2 q hq r (by simp)
    rw [lastO_snoc]
    by_cases c : r.h = h
    · rw [if_pos c]
      constructor
      · intro e
        cases e
        refine ⟨r, by simp, c, rfl, fun q hq _ => ?_⟩
        rcases List.mem_append.mp hq with hq | hq
        · exact Int.le_of_lt (lt q hq)
        · rw [List.mem_singleton.mp hq]; exact Int.le_refl _
      · rintro ⟨q, hq, qh, qo, all⟩
        rcases List.mem_append.mp hq with hq | hq
        · have a := lt q hq
          have b := all r (by simp) c
          omega
        · rw [← qo, List.mem_singleton.mp hq]
    · rw [if_neg c, ih h1]
      constructor
      · rintro ⟨q, hq, qh, qo, all⟩
        refine ⟨q, List.mem_append.mpr (.inl hq), qh, qo, fun p hp ph => ?_⟩
        rcases List.mem_append.mp hp with hp | hp
        · exact all p hp ph
        · rw [List.mem_singleton.mp hp] at ph; exact absurd ph c
      · rintro ⟨q, hq, qh, qo, all⟩
        rcases List.mem_append.mp hq with hq | hq
        · exact ⟨q, hq, qh, qo, fun p hp ph => all p (List.mem_append.mpr (.inl hp)) ph⟩
        · rw [List.mem_singleton.mp hq] at qh; exact absurd qh c
/-! ### what is live -/
def HostP (rs : List Rc) (o : Int) : Prop := ∃ h, lastO rs h = some o
def TopP (rs : List Rc) (ws : List (Int × Int)) (k : List Key) (o : Int) : Prop := o ∈ byTop rs k none ∨ (word k = "place" ∧ ∃ v ∈ ws, spaceK k = v.1 ∧ o ∈ byTop rs k (some v))
def GoneR (rs : List Rc) (r : Rc) : Prop := ∃ n, r.b = .remove n ∧ (∃ q ∈ rs, q.o < r.o ∧ memberR q n = true) ∧ ∀ q ∈ rs, q.o > r.o → ¬ q.b = .remove n
def LiveP (rs : List Rc) (ws : List (Int × Int)) (o : Int) : Prop := HostP rs o ∨ (∃ k ∈ topicsL rs, TopP rs ws k o) ∨ ∃ r ∈ rs, r.o = o ∧ GoneR rs r
open Classical in
noncomputable def liveL (rs : List Rc) (ws : List (Int × Int)) : List Rc := rs.filter fun r => decide (LiveP rs ws r.o)
theorem byTop_len {rs : List Rc} {k : List Key} {w : Vw} : (byTop rs k w).length ≤ 1 := by
  unfold byTop
  split
  · simp
  · split
    · simp
    · split <;> simp
theorem inV_int {o : Int} : ∀ {os : List Int}, inV (.int o) (os.map V.int) = decide (o ∈ os)
  | [] => rfl
  | n :: os => by
    show (eqV (.int n) (.int o) || inV (.int o) (os.map V.int)) = decide (o ∈ n :: os)
    rw [inV_int (os := os)]
    have e : eqV (.int n) (.int o) = decide (n = o) := by
      first | rfl | (show decide _ = decide _; simp) | simp [eqV]
    rw [e]
    by_cases c : n = o
    · rw [decide_eq_true c, decide_eq_true (show o ∈ n :: os by rw [c]; exact List.mem_cons_self)]; rfl
    · rw [decide_eq_false c, Bool.false_or]
      by_cases d : o ∈ os
      · rw [decide_eq_true d, decide_eq_true (List.mem_cons_of_mem _ d)]
      · rw [decide_eq_false d, decide_eq_false fun z => (List.mem_cons.mp z).elim (fun y => c y.symm) d]
theorem flat_ints : ∀ {os : List Int}, (os.map V.int).all flatV = true
  | [] => rfl
  | n :: os => by rw [List.map_cons, List.all_cons, flat_ints (os := os)]; rfl
def spLLive (K : PySem.W.Frag) : Sp := fun vs H Q _ => ∃ (a wv : Addr) (ts vp : List Addr) (rs : List Rc) (ws : List (Int × Int)), vs = [.ref a, .ref wv] ∧ SqL K H a (ts.map V.ref) ∧ Paired (RecAt K H) ts rs ∧ rs.length ≤ 100 ∧ (∀ r ∈ rs, RGood r) ∧ rs.Pairwise (fun x y => x.o < y.o) ∧ SqL K H wv (vp.map V.ref) ∧ Paired (PairAtT H) vp ws ∧ ws.length ≤ 200 ∧
  ∀ l ts' H', Same H H' → H l = Option.none → H' l = some (.lst (ts'.map V.ref)) → Paired (RecAt K H') ts' (liveL rs ws) → Q (.ref l) H'
theorem recs_dp {K : PySem.W.Frag} {H : Hp} : ∀ {ts : List Addr} {rs : List Rc}, Paired (RecAt K H) ts rs → DpAll K H (ts.map V.ref) (rs.map recDt)
  | _, _, .nil => .nil
  | _, _, .cons a b => .cons (RecAt.dp a) (recs_dp b)
theorem recs_lay : ∀ {rs : List Rc}, (∀ r ∈ rs, RGood r) → PyData.canLayAll0 (rs.map recDt) = true ∧ PyData.depthAll (rs.map recDt) ≤ 60
  | [], _ => ⟨by simp [PyData.canLayAll0], by simp [PyData.depthAll]⟩
  | r :: rs, h => by
    obtain ⟨i1, i2⟩ := recs_lay (rs := rs) fun x hx => h x (List.mem_cons_of_mem _ hx)
    have g := h r List.mem_cons_self
    refine ⟨by simp only [List.map_cons, PyData.canLayAll0, i1, g.l, Bool.and_self], ?_⟩
    have := g.dp
    simp only [List.map_cons, PyData.depthAll]
    exact Nat.max_le.mpr ⟨g.dp, i2⟩
theorem recs_sh {rs : List Rc} (h : ∀ r ∈ rs, RGood r) : SeqAt.shaped (.list (rs.map recDt)) = true := shaped_list (recs_lay h).1 (Nat.le_trans (recs_lay h).2 (by decide))
theorem recs_nil {rs : List Rc} : PyData.eqv (.list (rs.map recDt)) (.list []) = rs.isEmpty := by
  cases rs with
  | nil => simp [PyData.eqv, PyData.eqvAll]
  | cons => simp [PyData.eqv, PyData.eqvAll]
theorem filt_ne {rs : List Rc} {p : Rc → Bool} : (!(rs.filter p).isEmpty) = true ↔ ∃ r ∈ rs, p r = true := by
  rw [Bool.not_eq_true', List.isEmpty_eq_false_iff_exists_mem]
  constructor
  · rintro ⟨r, hr⟩; exact ⟨r, List.mem_filter.mp hr⟩
  · rintro ⟨r, a, b⟩; exact ⟨r, List.mem_filter.mpr ⟨a, b⟩⟩
theorem kind_remove {b : Bd} : kindS b = "remove" ↔ ∃ n, b = .remove n := by
  cases b with
  | remove n => exact ⟨fun _ => ⟨n, rfl⟩, fun _ => rfl⟩
  | _ => exact ⟨fun h => absurd h (by dsimp only [kindS]; decide), fun ⟨_, h⟩ => nomatch h⟩
def isRem (b : Bd) (n : Int) : Bool := match b with
  | .remove m => decide (m = n)
  | _ => false
theorem isRem_iff {b : Bd} {n : Int} : isRem b n = true ↔ b = .remove n := by
  cases b with
  | remove m =>
    show decide (m = n) = true ↔ _
    rw [decide_eq_true_iff]
    exact ⟨fun h => by rw [h], fun h => by cases h; rfl⟩
  | _ => exact ⟨fun h => (Bool.false_ne_true h).elim, fun h => nomatch h⟩
theorem isRem_no {b : Bd} {n : Int} (h : ¬ kindS b = "remove") : isRem b n = false := by
  cases b with
  | remove m => exact absurd rfl h
  | _ => rfl
end Sg

set_option Elab.async false
set_option linter.all false
set_option maxRecDepth 100000
set_option maxHeartbeats 4000000
namespace Sg
open PySem PySem.Spec PyProof.Rows L2
/-! ### the value of a topic, by its rows -/
theorem kne1 {w v : Str} {r s : List Key} (h : ¬ w = v) : ¬ ((Sum.inr w :: r : List Key) = Sum.inr v :: s) := fun z => h (by injection z with a b; injection a)
theorem effB_two {o h : Int} {b : Bd} : (∃ e, effB o h b = [e]) ∨ (∃ e1 e2, effB o h b = [e1, e2] ∧ e1.1 ≠ e2.1 ∧ (∀ n, e1.1 ≠ goneK n) ∧ ∀ n, e2.1 ≠ goneK n) := by
  cases b with
  | leave n hb =>
    cases hb
    · exact .inl ⟨_, rfl⟩
    · exact .inr ⟨_, _, rfl, kne1 (by decide), fun n => kne1 (by decide), fun n => kne1 (by decide)⟩
  | preempt n v w =>
    cases w
    · exact .inl ⟨_, rfl⟩
    · exact .inr ⟨_, _, rfl, kne1 (by decide), fun n => kne1 (by decide), fun n => kne1 (by decide)⟩
  | _ => exact .inl ⟨_, rfl⟩
theorem rowsL_snoc {rs : List Rc} {r : Rc} {k : List Key} : rowsL (rs ++ [r]) k = rowsL rs k ++ rowsE r.o k (effB r.o r.h r.b) := by
  unfold rowsL
  rw [List.map_append, List.flatten_append]
  show _ ++ (rowsE r.o k (effB r.o r.h r.b) ++ []) = _
  rw [List.append_nil]
theorem rowsE_one {o : Int} {k : List Key} {e : Ef} : rowsE o k [e] = if e.1 = k then [(o, e.2)] else [] := by
  unfold rowsE
  by_cases c : e.1 = k
  · rw [List.filterMap_cons, if_pos c, if_pos c]; rfl
  · rw [List.filterMap_cons, if_neg c, if_neg c]; rfl
theorem rowsE_two {o : Int} {k : List Key} {e f : Ef} : rowsE o k [e, f] = rowsE o k [e] ++ rowsE o k [f] := by
  unfold rowsE
  rw [← List.filterMap_append]; rfl
/-- a record brings a topic at most one row -/
theorem rowsE_le {o h : Int} {b : Bd} {k : List Key} : (rowsE o k (effB o h b)).length ≤ 1 := by
  rcases effB_two (o := o) (h := h) (b := b) with ⟨e, he⟩ | ⟨e, f, he, ne, _, _⟩
  · rw [he, rowsE_one]; split <;> simp
  · rw [he, rowsE_two, rowsE_one, rowsE_one]
    by_cases c : e.1 = k
    · rw [if_pos c, if_neg fun z => ne (c.trans z.symm)]; simp
    · rw [if_neg c]; split <;> simp
theorem rowsE_o {o : Int} {k : List Key} {es : List Ef} : ∀ x ∈ rowsE o k es, x.1 = o := by
  intro x hx
  obtain ⟨e, he, h⟩ := List.mem_filterMap.mp hx
  split at h
  · cases h; rfl
  · cases h
theorem rowsL_mem {rs : List Rc} {k : List Key} : ∀ x ∈ rowsL rs k, ∃ r ∈ rs, x.1 = r.o := by
  intro x hx
  obtain ⟨l, hl, hx⟩ := List.mem_flatten.mp hx
  obtain ⟨r, hr, rfl⟩ := List.mem_map.mp hl
  exact ⟨r, hr, rowsE_o x hx⟩
theorem asc_snoc {rs : List Rc} {r : Rc} (h : (rs ++ [r]).Pairwise (fun x y => x.o < y.o)) : rs.Pairwise (fun x y => x.o < y.o) ∧ ∀ q ∈ rs, q.o < r.o := by
  rw [List.pairwise_append] at h
  exact ⟨h.1, fun q hq => h.2.2 q hq r (by simp)⟩
theorem rowsL_asc {k : List Key} {rs : List Rc} : rs.Pairwise (fun x y => x.o < y.o) → (rowsL rs k).Pairwise (fun x y => x.1 < y.1) := by
  refine snocInd (p := fun rs => rs.Pairwise (fun x y => x.o < y.o) → (rowsL rs k).Pairwise (fun x y => x.1 < y.1)) (fun _ => List.Pairwise.nil) (fun rs r ih hp => ?_) rs
  obtain ⟨h1, h2⟩ := asc_snoc hp
  rw [rowsL_snoc, List.pairwise_append]
  refine ⟨ih h1, ?_, fun x hx y hy => ?_⟩
  · have := rowsE_le (o := r.o) (h := r.h) (b := r.b) (k := k)
    match hm : rowsE r.o k (effB r.o r.h r.b), this with
    | [], _ => exact .nil
    | [x], _ => simp
    | _ :: _ :: _, h => simp at h
  · obtain ⟨q, hq, e⟩ := rowsL_mem x hx
    rw [e, rowsE_o y hy]
    exact h2 q hq
def valQ (rs : List Rc) (k : List Key) : PyData := match (rowsL rs k).getLast? with
  | none => .none
  | some x => if hidL rs k x.1 none = true then .none else x.2
theorem hidL_snoc {rs : List Rc} {r : Rc} {k : List Key} {o : Int} (hw : word k ≠ "told") : hidL (rs ++ [r]) k o none = (hidL rs k o none || (rowsE r.o (goneK (spaceK k)) (effB r.o r.h r.b)).any fun x => decide (o < x.1)) := by
  unfold hidL
  rw [if_neg hw, if_neg hw, rowsL_snoc, List.any_append]
  congr 1
  · show _ = (rowsE r.o (goneK (spaceK k)) (effB r.o r.h r.b)).any _
    congr 1
    funext x
    show (decide (o < x.1) && true) = decide (o < x.1)
    rw [Bool.and_true]
theorem goneE_none {o : Int} {n : Int} {es : List Ef} (h : ∀ e ∈ es, e.1 ≠ goneK n) : rowsE o (goneK n) es = [] := by
  unfold rowsE
  rw [List.filterMap_eq_nil_iff]
  intro e he
  rw [if_neg (h e he)]
theorem hidL_fresh {rs : List Rc} {k : List Key} {o : Int} (h : ∀ q ∈ rs, q.o < o) : hidL rs k o none = false := by
  unfold hidL
  split
  · rfl
  · rw [List.any_eq_false]
    intro x hx
    obtain ⟨q, hq, e⟩ := rowsL_mem x hx
    have := h q hq
    rw [e, decide_eq_false (by omega)]; simp
theorem valL_eq {k : List Key} (hw : word k ≠ "gone") (hw2 : word k ≠ "told") {rs : List Rc} : rs.Pairwise (fun x y => x.o < y.o) → valL rs k = valQ rs k := by
  refine snocInd (p := fun rs => rs.Pairwise (fun x y => x.o < y.o) → valL rs k = valQ rs k) (fun _ => rfl) (fun rs r ih hp => ?_) rs
  obtain ⟨h1, h2⟩ := asc_snoc hp
  have ih := ih h1
  have kG : k ≠ goneK (spaceK k) := fun e => hw (by rw [e]; rfl)
  have e0 : valL (rs ++ [r]) k = (effB r.o r.h r.b).foldl (valStep k) (valL rs k) := by
    unfold valL; rw [effsL_snoc, List.foldl_append]
  have st1 : ∀ (v : PyData) (e : Ef), e.1 = goneK (spaceK k) → valStep k v e = .none := fun v e h => by unfold valStep; rw [if_pos ⟨h, hw, hw2⟩]
  have st2 : ∀ (v : PyData) (e : Ef), e.1 = k → valStep k v e = e.2 := fun v e h => by
    unfold valStep; rw [if_neg (fun z => kG (h.symm.trans z.1)), if_pos h]
  have st3 : ∀ (v : PyData) (e : Ef), e.1 ≠ goneK (spaceK k) → e.1 ≠ k → valStep k v e = v := fun v e h h' => by
    unfold valStep; rw [if_neg (fun z => h z.1), if_neg h']
  have same : (∀ e ∈ effB r.o r.h r.b, e.1 ≠ goneK (spaceK k)) → rowsE r.o k (effB r.o r.h r.b) = [] → valQ (rs ++ [r]) k = valQ rs k := fun g e => by
    unfold valQ
    rw [rowsL_snoc, e, List.append_nil]
    cases hx : (rowsL rs k).getLast? with
    | none => rfl
    | some x =>
      dsimp only
      rw [hidL_snoc hw2, goneE_none g, List.any_nil, Bool.or_false]
  have hit : ∀ d, (∀ e ∈ effB r.o r.h r.b, e.1 ≠ goneK (spaceK k)) → rowsE r.o k (effB r.o r.h r.b) = [(r.o, d)] → valQ (rs ++ [r]) k = d := fun d g e => by
    unfold valQ
    rw [rowsL_snoc, e, List.getLast?_concat]
    dsimp only
    rw [hidL_snoc hw2, goneE_none g, List.any_nil, Bool.or_false, hidL_fresh h2, if_neg (by decide)]
  rw [e0]
  rcases effB_two (o := r.o) (h := r.h) (b := r.b) with ⟨e, he⟩ | ⟨e, f, he, ne, ge, gf⟩
  · rw [he, List.foldl_cons, List.foldl_nil]
    by_cases c1 : e.1 = goneK (spaceK k)
    · rw [st1 _ _ c1]
      unfold valQ
      have en : rowsE r.o k (effB r.o r.h r.b) = [] := by rw [he, rowsE_one, if_neg fun z => kG (z.symm.trans c1)]
      rw [rowsL_snoc, en, List.append_nil]
      cases hx : (rowsL rs k).getLast? with
      | none => rfl
      | some x =>
        dsimp only
        obtain ⟨q, hq, eq⟩ := rowsL_mem x (List.mem_of_getLast? hx)
        have lt := h2 q hq
        rw [hidL_snoc hw2, he, rowsE_one, if_pos c1, List.any_cons, decide_eq_true (show x.1 < r.o by omega), Bool.true_or, Bool.or_true, if_pos rfl]
    · by_cases c2 : e.1 = k
      · rw [st2 _ _ c2, hit e.2 (by rw [he]; intro x hx; rw [List.mem_singleton.mp hx]; exact c1) (by rw [he, rowsE_one, if_pos c2])]
      · rw [st3 _ _ c1 c2, ih, same (by rw [he]; intro x hx; rw [List.mem_singleton.mp hx]; exact c1) (by rw [he, rowsE_one, if_neg c2])]
  · rw [he, List.foldl_cons, List.foldl_cons, List.foldl_nil]
    have ng : ∀ x ∈ effB r.o r.h r.b, x.1 ≠ goneK (spaceK k) := by
      rw [he]; intro x hx
      rcases List.mem_cons.mp hx with rfl | hx
      · exact ge _
      · rw [List.mem_singleton.mp hx]; exact gf _
    by_cases c1 : e.1 = k
    · have c2 : f.1 ≠ k := fun z => ne (c1.trans z.symm)
      rw [st3 _ f (gf _) c2, st2 _ _ c1, hit e.2 ng (by rw [he, rowsE_two, rowsE_one, rowsE_one, if_pos c1, if_neg c2]; rfl)]
    · rw [st3 _ e (ge _) c1]
      by_cases c2 : f.1 = k
      · rw [st2 _ _ c2, hit f.2 ng (by rw [he, rowsE_two, rowsE_one, rowsE_one, if_neg c1, if_pos c2]; rfl)]
      · rw [st3 _ f (gf _) c2, ih, same ng (by rw [he, rowsE_two, rowsE_one, rowsE_one, if_neg c1, if_neg c2]; rfl)]
/-! ### sorted pairs -/
abbrev IP := Int × Int
def SrtP (l : List IP) : Prop := l.Pairwise fun x y => SrtO.lexB y x = false
theorem pairs_at {H : Hp} : ∀ {ps : List Addr} {xs : List IP}, Paired (PairAtT H) ps xs → ∃ k : V → Int × Int, ps.map (fun p => k (.ref p)) = xs ∧ ∀ p ∈ ps, H p = some (.tup [.int (k (.ref p)).1, .int (k (.ref p)).2]) := by
  intro ps xs h
  refine ⟨fun v => match v with
    | .ref p => match H p with
      | some (.tup [.int i, .int j]) => (i, j)
      | _ => (0, 0)
    | _ => (0, 0), ?_⟩
  induction h with
  | nil => exact ⟨rfl, fun p hp => nomatch hp⟩
  | @cons p x ps xs a b ih =>
    have e : (match H p with
      | some (.tup [.int i, .int j]) => (i, j)
      | _ => ((0, 0) : Int × Int)) = x := by rw [a]
    refine ⟨?_, fun q hq => ?_⟩
    · rw [List.map_cons]; dsimp only
      rw [e]
      exact congrArg _ ih.1
    · rcases List.mem_cons.mp hq with rfl | hq
      · dsimp only; rw [e]; exact a
      · exact ih.2 q hq
theorem paired_of {H : Hp} {k : V → Int × Int} : ∀ {ps : List Addr}, (∀ p ∈ ps, H p = some (.tup [.int (k (.ref p)).1, .int (k (.ref p)).2])) → Paired (PairAtT H) ps (ps.map fun p => k (.ref p))
  | [], _ => .nil
  | p :: ps, h => .cons (h p List.mem_cons_self) (paired_of fun q hq => h q (List.mem_cons_of_mem _ hq))
theorem refs_perm : ∀ {ys : List V} {ps : List Addr}, ys.Perm (ps.map V.ref) → ∃ qs : List Addr, ys = qs.map V.ref ∧ qs.Perm ps := by
  intro ys ps h
  have : ∀ y ∈ ys, ∃ p : Addr, y = .ref p := fun y hy => by
    obtain ⟨p, _, e⟩ := List.mem_map.mp (h.mem_iff.mp hy)
    exact ⟨p, e.symm⟩
  let g : V → Addr := fun v => match v with
    | .ref p => p
    | _ => 0
  refine ⟨ys.map g, ?_, ?_⟩
  · rw [List.map_map]
    have : ∀ l : List V, (∀ y ∈ l, ∃ p : Addr, y = .ref p) → l = l.map (V.ref ∘ g) := by
      intro l
      induction l with
      | nil => intro _; rfl
      | cons y l ih =>
        intro hl
        obtain ⟨p, rfl⟩ := hl y List.mem_cons_self
        rw [List.map_cons, ← ih fun z hz => hl z (List.mem_cons_of_mem _ hz)]; rfl
    exact this ys ‹_›
  · have z := h.map g
    rw [List.map_map] at z
    have e : ps.map (g ∘ V.ref) = ps := by
      have : (g ∘ V.ref) = id := rfl
      rw [this, List.map_id]
    rw [e] at z; exact z
/-- sorted(pairs), as data -/
theorem call_sortP {X : Cx} : CallR X (.builtin "sorted") (fun vs H Q => ∃ (a : Addr) (ps : List Addr) (xs : List IP), vs = [V.ref a] ∧ SqL X.K H a (ps.map V.ref) ∧ Paired (PairAtT H) ps xs ∧
    ∀ (qs : List Addr) (ys : List IP) (p : Addr), ys.Perm xs → SrtP ys → H p = none → Paired (PairAtT H) qs ys → Q (.ref p) (upd H p (.lst (qs.map V.ref)))) := by
  intro pins s σ H vs us Q I rx h
  obtain ⟨a, ps, xs, rfl, ha, hp, q⟩ := h
  obtain ⟨k, hk, hat⟩ := pairs_at hp
  refine cr_sortedPO (X := X) pins s σ H _ us Q I rx ⟨a, ps.map V.ref, k, rfl, ha, fun x hx => ?_, fun ys p h1 h2 hn => ?_⟩
  · obtain ⟨p, hp, rfl⟩ := List.mem_map.mp hx
    exact ⟨p, rfl, hat p hp⟩
  · obtain ⟨qs, rfl, hq⟩ := refs_perm h2.perm
    refine q qs (qs.map fun p => k (.ref p)) p ?_ ?_ hn (paired_of fun p hp => hat p (hq.mem_iff.mp hp))
    · rw [← hk]; exact hq.map _
    · unfold SrtP
      rw [List.pairwise_map]
      have z := List.pairwise_map.mp h1
      exact z
theorem lex_anti {x y : IP} (a : SrtO.lexB y x = false) (b : SrtO.lexB x y = false) : x = y := by
  obtain ⟨x1, x2⟩ := x
  obtain ⟨y1, y2⟩ := y
  simp only [SrtO.lexB] at a b
  by_cases e1 : x1 = y1
  · subst e1
    rw [if_pos rfl, decide_eq_false_iff_not] at a b
    have e2 : x2 = y2 := by omega
    rw [e2]
  · rw [if_neg fun z => e1 z.symm, decide_eq_false_iff_not] at a
    rw [if_neg e1, decide_eq_false_iff_not] at b
    omega
theorem srtP_uniq {xs ys : List IP} (hp : xs.Perm ys) (a : SrtP xs) (b : SrtP ys) : xs = ys :=
  List.Perm.eq_of_pairwise (fun x y _ _ h1 h2 => lex_anti h1 h2) a b hp
end Sg

set_option Elab.async false
set_option linter.all false
set_option maxRecDepth 100000
set_option maxHeartbeats 4000000
namespace Sg
open PySem PySem.Spec PyProof.Rows L2
/-! ### the places that are shared -/
def rowLast (rs : List Rc) (k : List Key) : Int := match (rowsL rs k).getLast? with
  | none => 0
  | some x => x.1
def isSh (rs : List Rc) (ws : List IP) (k : List Key) : Bool := decide (word k = "place") && (!noneQ (valL rs k) && ws.any fun v => decide (v.1 = spaceK k) && decide (rowLast rs k < v.2))
def sharedL (rs : List Rc) (ws : List IP) : List IP := ((topicsL rs).filter (isSh rs ws)).map fun k => (spaceK k, thirdK k)
def PForm (k : List Key) : Prop := word k = "place" → ∃ n m, k = [(.inr ("place" : Str) : Key), .inl n, .inl m]
theorem wnp {w : Str} {r : List Key} (h : ¬ w = "place") : ¬ word (.inr w :: r) = "place" := h
theorem effB_p {o h : Int} {b : Bd} : ∀ e ∈ effB o h b, PForm e.1 := by
  intro e he hw
  cases b with
  | leave n hb => cases hb <;> simp only [effB, List.mem_cons, List.not_mem_nil, or_false] at he <;> (try rcases he with rfl | rfl) <;> (try subst he) <;> exact absurd hw (wnp (by decide))
  | preempt n v w => cases w <;> simp only [effB, List.mem_cons, List.not_mem_nil, or_false] at he <;> (try rcases he with rfl | rfl) <;> (try subst he) <;> exact absurd hw (wnp (by decide))
  | _ => simp only [effB, List.mem_cons, List.not_mem_nil, or_false] at he; subst he; first | exact ⟨_, _, rfl⟩ | exact absurd hw (wnp (by decide))
theorem topicsL_p {rs : List Rc} : ∀ k ∈ topicsL rs, PForm k := foldT_all (by intro k hk; cases hk) (effsL_all fun r _ => effB_p)
theorem val_rows {rs : List Rc} {k : List Key} (hp : rs.Pairwise (fun x y => x.o < y.o)) (hw : word k = "place") (h : noneQ (valL rs k) = false) : ∃ xs x, rowsL rs k = xs ++ [x] := by
  rw [valL_eq (by rw [hw]; decide) (by rw [hw]; decide) hp] at h
  rcases List.eq_nil_or_concat (rowsL rs k) with e | ⟨xs, x, e⟩
  · unfold valQ at h
    rw [e] at h; cases h
  · exact ⟨xs, x, by rw [e, List.concat_eq_append]⟩
def spLShared (K : PySem.W.Frag) : Sp := fun vs H Q _ => ∃ (a wv : Addr) (ts vp : List Addr) (rs : List Rc) (ws : List IP), vs = [.ref a, .ref wv] ∧ SqL K H a (ts.map V.ref) ∧ Paired (RecAt K H) ts rs ∧ rs.length ≤ 100 ∧ (∀ r ∈ rs, RGood r) ∧ rs.Pairwise (fun x y => x.o < y.o) ∧ SqL K H wv (vp.map V.ref) ∧ Paired (PairAtT H) vp ws ∧ ws.length ≤ 200 ∧
  ∀ l ps ys H', Same H H' → H l = Option.none → H' l = some (.lst (ps.map V.ref)) → Paired (PairAtT H') ps ys → ys.Perm (sharedL rs ws) → SrtP ys → Q (.ref l) H'
section
variable {P : Program} {wd : World} {K : PySem.W.Frag} {mg : Str → Option Value} {base : Heap} {f fT fV fR : Addr} {fd fdT fdV fdR : FuncData}
end
end Sg

set_option Elab.async false
set_option linter.all false
set_option maxRecDepth 100000
set_option maxHeartbeats 4000000
namespace Sg
open PySem PySem.Spec PyProof.Rows L2
/-! ### xs.remove(x), over data -/
def rRemD (K : PySem.W.Frag) : V → List V → Hp → VK → Prop := fun x xs H Q => ∃ (l : Addr) (vs : List V) (y : V) (d : PyData) (ds : List PyData) (j : Nat), x = .ref l ∧ xs = [y] ∧ H l = some (.lst vs) ∧ DpAll K H vs ds ∧ Dp K H y d ∧ PyData.plainAll ds = true ∧ d.plain = true ∧ d.depth ≤ 60 ∧ (ds.findIdx? fun y => PyData.eqv y d) = some j ∧ Q .non (upd H l (.lst (vs.eraseIdx j)))
theorem mt_removeD {X : Cx} (hu : X.A.units + 65 < cLine) : MtM X "list.remove" (rRemD X.K) := by
  intro pins s σ H x xs v us Q I rx rxs h
  obtain ⟨l, vs, y, d, ds, j, rfl, rfl, hH, ha, hy, pa, pd, hdp, hj, q⟩ := h
  cases rx
  obtain ⟨u, rfl, ru⟩ := rxs.one
  obtain ⟨bs, r1⟩ := Dp.reads I d y u hy ru
  obtain ⟨z, its, n, r, hl, e⟩ := I.lstM hH
  obtain ⟨as, h4⟩ := Dp.readsAll I ds _ its ha r
  have e2 : s.heap.IsList l its.toArray := ⟨_, e, rfl, n, rfl⟩
  refine SeqAt.remove_list_data (j := j) e2 h4 r1 pa pd (Nat.lt_of_le_of_lt (Nat.add_le_add_left (Nat.min_le_right _ _) _) (by omega)) hj (by rw [List.size_toArray]; omega) ?_
  have rr := r.eraseIdx j
  refine ⟨.non, _, I.lset (its' := its.eraseIdx j) (t' := s.toks) hH e ?_ rr ?_, rfl, q⟩
  · show its.toArray.eraseIdxIfInBounds j = (its.eraseIdx j).toArray
    rw [List.eraseIdxIfInBounds_toArray]
  · have := List.length_eraseIdx_le vs j
    omega
end Sg

set_option Elab.async false
set_option linter.all false
set_option maxRecDepth 100000
set_option maxHeartbeats 4000000
namespace Sg
open PySem PySem.Spec PyProof.Rows L2
/-! ### a cut at a test, at an expression -/
def tCut (t : TT) : TT := fun σ H Q => ∃ C : Bool → Hp → Prop, t σ H C ∧ ∀ b H', C b H' → Q b H'
theorem pt_cut {X : Cx} {e : Expr} {t : TT} (h : PT X e t) : PT X e (tCut t) :=
  ⟨fun pins s σ H Q I ⟨C, hC, k⟩ => thn (h.run pins s σ H C I hC) fun b s1 q => by
    obtain ⟨H', I', c⟩ := q
    exact ⟨H', I', k _ _ c⟩⟩
def tCutE (t : TE) : TE := fun σ H Q => ∃ C : VK, t σ H C ∧ ∀ b H', C b H' → Q b H'
theorem pe_cut {X : Cx} {e : Expr} {t : TE} (h : PE X e t) : PE X e (tCutE t) :=
  ⟨fun pins s σ H Q I ⟨C, hC, k⟩ => thn (h.run pins s σ H C I hC) fun b s1 q => by
    obtain ⟨v, H', I', r, c⟩ := q
    exact ⟨v, H', I', r, k _ _ c⟩⟩
/-- [x for x in a tuple if ..], the truths written beside -/
theorem lc_filtTB {K : PySem.W.Frag} {σ : L2.St} {H1 : Hp} {D a : Addr} {vs : List Nat} {j : Nat} {xs : List V} {tt : TT} {te : TE} {Qd : Hp → Prop} (bs : List Bool) (hb : bs.length = xs.length) (hD : H1 D = Option.none) (hx : SqT K H1 a xs) (hw : ∀ x, wipe ((wipe σ vs).set j (some x)) vs = wipe σ vs) (hz : xs.length ≤ sizeLine)
    (he : ∀ (i : Nat) (x : V) (b : Bool) (H' : Hp) (Q' : Bool → Hp → Prop), xs[i]? = some x → bs[i]? = some b → Same H1 H' → (∀ H'', Same H' H'' → Q' b H'') → tt ((wipe σ vs).set j (some x)) H' Q')
    (hv : ∀ (x : V) (H' : Hp) (Q' : VK), x ∈ xs → Q' x H' → te ((wipe σ vs).set j (some x)) H' Q')
    (hd : ∀ H', Same H1 H' → H' D = some (.lst (keepB xs bs)) → Qd H') :
    ∃ W : Nat → Nat → Hp → Prop, (∃ m, W 0 m (upd H1 D (.lst []))) ∧ ∀ i m H, W i m H →
      ((Itt K a).stop i H ∧ Qd H) ∨ ((Itt K a).go i H ∧ ∃ Nx : Hp → Prop, (∀ H', Nx H' → ∃ m', m' < m ∧ W (i + 1) m' H') ∧ ∀ x H', (Itt K a).yld i H x H' → gName j x (wipe σ vs) H' fun σ2 H2 => wipe σ2 vs = wipe σ vs ∧ tt σ2 H2 fun b H3 =>
        if b = true then te σ2 H3 fun y H4 => ∃ acc, H4 D = some (.lst acc) ∧ acc.length < sizeLine ∧ Nx (upd H4 D (.lst (acc ++ [y]))) else Nx H3) := by
  refine lc_it (walk_tup (K := K) (a := a) (xs := xs)) (fun i H' => i ≤ xs.length ∧ Same H1 H' ∧ H' D = some (.lst (keepB (xs.take i) (bs.take i)))) ⟨Nat.zero_le _, same_new hD, by rw [List.take_zero, List.take_zero]; exact upd_same⟩ (fun i H' _ ⟨_, sm, _⟩ => SqT_same sm hx) ?_ ?_
  · rintro i x H' H'' hil ⟨_, sm, hDl⟩ ⟨rfl, hi⟩
    have hm := List.mem_of_getElem? hi
    obtain ⟨b, hbi⟩ : ∃ b, bs[i]? = some b := ⟨bs[i]'(by omega), List.getElem?_eq_getElem (by omega)⟩
    refine ⟨hw _, he i x b H'' _ hi hbi sm fun H3 s2 => ?_⟩
    have hD2 := s2 _ _ hDl
    have hlen : (keepB (xs.take i) (bs.take i)).length ≤ i := Nat.le_trans keepB_len (by rw [List.length_take]; omega)
    have tk := keepB_take hi hbi
    cases b with
    | true =>
      rw [if_pos rfl]
      rw [if_pos rfl] at tk
      refine hv x H3 _ hm ⟨_, hD2, by omega, by omega, ?_, ?_⟩
      · intro y o hy'
        rw [upd_ne (ne_of_none hy' hD)]
        exact s2 _ _ (sm _ _ hy')
      · rw [upd_same, tk]
    | false =>
      rw [if_neg Bool.false_ne_true]
      rw [if_neg Bool.false_ne_true, List.append_nil] at tk
      refine ⟨by omega, sm.trans s2, ?_⟩
      rw [hD2, tk]
  · rintro H' ⟨_, sm, hDl⟩
    refine hd H' sm ?_
    rw [List.take_length, ← hb, List.take_length] at hDl
    exact hDl
end Sg

set_option Elab.async false
set_option linter.all false
set_option maxRecDepth 100000
set_option maxHeartbeats 4000000
namespace Sg
open PySem PySem.Spec PyProof.Rows L2
/-! ### the fields of a record that is drawn -/
theorem keepB_ints {l : List Int} {p : Int → Bool} : keepB (l.map V.int) (l.map p) = (l.filter p).map V.int := by
  induction l with
  | nil => rfl
  | cons x l ih =>
    rw [List.map_cons, List.map_cons, List.filter_cons]
    cases c : p x <;> simp [keepB, ih]
theorem ints_dpW {K : PySem.W.Frag} {H : Hp} : ∀ {l : List Int}, DpAll K H (l.map V.int) (l.map PyData.int)
  | [] => .nil
  | x :: l => .cons (.int x) ints_dpW
theorem ints_layW : ∀ {l : List Int}, PyData.canLayAll0 (l.map PyData.int) = true ∧ PyData.depthAll (l.map PyData.int) = 0
  | [] => ⟨by simp [PyData.canLayAll0], by simp [PyData.depthAll]⟩
  | x :: l => by
    obtain ⟨a, b⟩ := ints_layW (l := l)
    exact ⟨by simp [PyData.canLayAll0, PyData.canLay0, a], by simp [PyData.depthAll, PyData.depth, b]⟩
theorem ints_shW {l : List Int} : SeqAt.shaped (.list (l.map PyData.int)) = true := shaped_list ints_layW.1 (by rw [ints_layW.2]; decide)
theorem ints_nilW {l : List Int} : PyData.eqv (.list (l.map PyData.int)) (.list []) = l.isEmpty := by
  cases l with
  | nil => simp [PyData.eqv, PyData.eqvAll]
  | cons => simp [PyData.eqv, PyData.eqvAll]
def prD (x : IP) : PyData := .tuple [.int x.1, .int x.2]
theorem prs_dp {K : PySem.W.Frag} {H : Hp} : ∀ {ps : List Addr} {xs : List IP}, Paired (PairAtT H) ps xs → DpAll K H (ps.map V.ref) (xs.map prD)
  | _, _, .nil => .nil
  | _, _, .cons a b => .cons (.tup (SqT.of a) (.cons (.int _) (.cons (.int _) .nil))) (prs_dp b)
theorem prs_lay : ∀ {xs : List IP}, PyData.canLayAll0 (xs.map prD) = true ∧ PyData.depthAll (xs.map prD) ≤ 1
  | [] => ⟨by simp [PyData.canLayAll0], by simp [PyData.depthAll]⟩
  | x :: xs => by
    obtain ⟨a, b⟩ := prs_lay (xs := xs)
    refine ⟨by simp [PyData.canLayAll0, PyData.canLay0, prD, a], ?_⟩
    simp only [List.map_cons, PyData.depthAll]
    exact Nat.max_le.mpr ⟨by simp [prD, PyData.depth, PyData.depthAll], b⟩
theorem prs_sh {xs : List IP} : SeqAt.shaped (.list (xs.map prD)) = true := shaped_list prs_lay.1 (Nat.le_trans prs_lay.2 (by decide))
theorem prs_nil {xs : List IP} : PyData.eqv (.list (xs.map prD)) (.list []) = xs.isEmpty := by
  cases xs with
  | nil => simp [PyData.eqv, PyData.eqvAll]
  | cons => simp [PyData.eqv, PyData.eqvAll]
theorem nil_sh : SeqAt.shaped (.list []) = true := shaped_list (by simp [PyData.canLayAll0]) (by simp [PyData.depthAll])
theorem atI_pick {xs : List V} {r : Int} (h0 : 0 ≤ r) (h1 : r < (xs.length : Int)) : ∃ v ∈ xs, atI xs r = some v := by
  have hj : r.toNat < xs.length := by omega
  have := atI_nat (List.getElem?_eq_getElem hj)
  rw [show ((r.toNat : Nat) : Int) = r by omega] at this
  exact ⟨_, List.getElem_mem hj, this⟩
structure BGood (b : Bd) : Prop where
  t : tupOs (fldD b) = true
  l : PyData.canLayAll0 (fldD b) = true
  dp : PyData.depthAll (fldD b) ≤ 10
def BIn (b : Bd) (ns : List Int) (xs : List IP) : Prop := (∀ n, b = .remove n → n ∈ ns) ∧ ∀ n s, b = .drop n s → (n, s) ∈ xs
structure FS (K : PySem.W.Frag) (H : Hp) (tp q sp sn : Addr) (ns : List Int) (ps : List Addr) (xs : List IP) (Hx : Hp) : Prop where
  o : Off [tp] H Hx
  t : TapeQ K Hx tp q
  sp : Hx sp = some (.lst (ns.map V.int))
  sn : Hx sn = some (.lst (ps.map V.ref))
  pr : Paired (PairAtT Hx) ps xs
section
variable {K : PySem.W.Frag} {H Hx Hy : Hp} {tp q sp sn : Addr} {ns : List Int} {ps : List Addr} {xs : List IP}
theorem FS.same (h : FS K H tp q sp sn ns ps xs Hx) (s : Same Hx Hy) : FS K H tp q sp sn ns ps xs Hy :=
  ⟨h.o.trans (Off.of s), h.t.same s, s _ _ h.sp, s _ _ h.sn, Paired.imp2 (fun _ _ z => s _ _ z) h.pr⟩
theorem FS.off (h : FS K H tp q sp sn ns ps xs Hx) (o : Off [tp] Hx Hy) (t : TapeQ K Hy tp q) (n1 : sp ≠ tp) (n2 : sn ≠ tp) : FS K H tp q sp sn ns ps xs Hy :=
  ⟨h.o.trans o, t, o _ _ h.sp (by simpa using n1), o _ _ h.sn (by simpa using n2), Paired.imp2 (fun _ _ z => (h.t.tk o).t _ _ z) h.pr⟩
end
def spLFields (K : PySem.W.Frag) : Sp := fun vs H Q _ => ∃ (tp q sp sn : Addr) (ns : List Int) (ps : List Addr) (xs : List IP), vs = [.ref tp, .ref sp, .ref sn] ∧ FS K H tp q sp sn ns ps xs H ∧ sp ≠ tp ∧ sn ≠ tp ∧ ns.length ≤ 100 ∧ xs.length ≤ 100 ∧
  ∀ v b H', FS K H tp q sp sn ns ps xs H' → Dp K H' v (.tuple [.str (kindS b), .tuple (fldD b)]) → BGood b → BIn b ns xs → Q v H'
theorem ok_w : ∀ s ∈ (["write", "alone", "ok"] : List Str), PyData.strOk s = true := by decide +kernel
theorem bg_ints {b : Bd} {l : List Int} (h : fldD b = l.map PyData.int) : BGood b := by
  refine ⟨?_, by rw [h]; exact ints_layW.1, by rw [h, ints_layW.2]; decide⟩
  rw [h]
  clear h
  induction l with
  | nil => rfl
  | cons x l ih => simp [tupOs, tupO, ih]
section
variable {P : Program} {wd : World} {K : PySem.W.Frag} {mg : Str → Option Value} {base : Heap} {f fN : Addr} {fd fdN : FuncData}
end
end Sg

set_option Elab.async false
set_option linter.all false
set_option maxRecDepth 100000
set_option maxHeartbeats 4000000
namespace Sg
open PySem PySem.Spec PyProof.Rows L2
/-! ### the records that are drawn -/
structure RS (K : PySem.W.Frag) (H : Hp) (tp q rl sp sn : Addr) (ts : List Addr) (rs : List Rc) (ns : List Int) (ps : List Addr) (xs : List IP) (Hx : Hp) : Prop where
  o : Off [tp] H Hx
  t : TapeQ K Hx tp q
  l : Hx rl = some (.lst (ts.map V.ref))
  pr : Paired (RecAt K Hx) ts rs
  s : Hx sp = some (.lst (ns.map V.int))
  n : Hx sn = some (.lst (ps.map V.ref))
  pp : Paired (PairAtT Hx) ps xs
  f1 : H rl = Option.none
  f2 : H sp = Option.none
  f3 : H sn = Option.none
  d1 : rl ≠ sp
  d2 : rl ≠ sn
  d3 : sp ≠ sn
  g : ∀ r ∈ rs, RGood r
section
variable {K : PySem.W.Frag} {H Hx Hy : Hp} {tp q rl sp sn : Addr} {ts : List Addr} {rs : List Rc} {ns : List Int} {ps : List Addr} {xs : List IP}
theorem tape_ne {p q : Addr} {H : Hp} {x : Addr} (t : TapeQ K H p q) (h : H x = Option.none) : x ≠ p ∧ x ≠ q := by
  obtain ⟨ns, i, rest, seed, h1, h2, _⟩ := t
  exact ⟨(fun e => by rw [e, h1] at h; cases h), (fun e => by rw [e, h2] at h; cases h)⟩
theorem RS.same (h : RS K H tp q rl sp sn ts rs ns ps xs Hx) (s : Same Hx Hy) : RS K H tp q rl sp sn ts rs ns ps xs Hy :=
  ⟨h.o.trans (Off.of s), h.t.same s, s _ _ h.l, Paired.imp2 (fun _ _ z => z.same s) h.pr, s _ _ h.s, s _ _ h.n, Paired.imp2 (fun _ _ z => s _ _ z) h.pp, h.f1, h.f2, h.f3, h.d1, h.d2, h.d3, h.g⟩
theorem paired_rtk {H H' : Hp} (s : TK H H') : ∀ {ts : List Addr} {rs : List Rc}, (∀ r ∈ rs, RGood r) → Paired (RecAt K H) ts rs → Paired (RecAt K H') ts rs
  | _, _, _, .nil => .nil
  | _, _, g, .cons a b => .cons (a.tk (g _ List.mem_cons_self) s) (paired_rtk s (fun r hr => g r (List.mem_cons_of_mem _ hr)) b)
theorem RS.off (h : RS K H tp q rl sp sn ts rs ns ps xs Hx) (t0 : TapeQ K H tp q) (o : Off [tp] Hx Hy) (t : TapeQ K Hy tp q) : RS K H tp q rl sp sn ts rs ns ps xs Hy := by
  have n1 := (tape_ne t0 h.f1).1
  have n2 := (tape_ne t0 h.f2).1
  have n3 := (tape_ne t0 h.f3).1
  exact ⟨h.o.trans o, t, o _ _ h.l (by simpa using n1), paired_rtk (h.t.tk o) h.g h.pr, o _ _ h.s (by simpa using n2), o _ _ h.n (by simpa using n3), Paired.imp2 (fun _ _ z => (h.t.tk o).t _ _ z) h.pp, h.f1, h.f2, h.f3, h.d1, h.d2, h.d3, h.g⟩
theorem RS.fs (h : RS K H tp q rl sp sn ts rs ns ps xs Hx) : FS K Hx tp q sp sn ns ps xs Hx := ⟨Off.refl _, h.t, h.s, h.n, h.pp⟩
/-- one list of one's own is written -/
theorem RS.put (h : RS K H tp q rl sp sn ts rs ns ps xs Hx) (t0 : TapeQ K H tp q) {x : Addr} {l l' : List V} (hx : Hx x = some (.lst l)) (hf : H x = Option.none) : Off [tp] H (upd Hx x (.lst l')) ∧ TapeQ K (upd Hx x (.lst l')) tp q ∧ TK Hx (upd Hx x (.lst l')) := by
  have n := tape_ne t0 hf
  refine ⟨fun b u e m => by rw [upd_ne (ne_of_none e hf)]; exact h.o _ _ e m, h.t.off (xs := [x]) (Off.upd (by simp)) (by simpa using fun e => n.1 e.symm) (by simpa using fun e => n.2 e.symm), TK.off (xs := [x]) (Off.upd (by simp)) fun y hy => by rw [List.mem_singleton.mp hy]; exact .inl ⟨_, hx⟩⟩
theorem RS.setL (h : RS K H tp q rl sp sn ts rs ns ps xs Hx) (t0 : TapeQ K H tp q) {ts' : List Addr} {rs' : List Rc} (pr : Paired (RecAt K Hx) ts' rs') (g : ∀ r ∈ rs', RGood r) : RS K H tp q rl sp sn ts' rs' ns ps xs (upd Hx rl (.lst (ts'.map V.ref))) := by
  obtain ⟨a, b, c⟩ := h.put t0 (l' := ts'.map V.ref) h.l h.f1
  exact ⟨a, b, upd_same, paired_rtk c g pr, by rw [upd_ne (fun e => h.d1 e.symm)]; exact h.s, by rw [upd_ne (fun e => h.d2 e.symm)]; exact h.n, Paired.imp2 (fun _ _ z => c.t _ _ z) h.pp, h.f1, h.f2, h.f3, h.d1, h.d2, h.d3, g⟩
theorem RS.setS (h : RS K H tp q rl sp sn ts rs ns ps xs Hx) (t0 : TapeQ K H tp q) {ns' : List Int} : RS K H tp q rl sp sn ts rs ns' ps xs (upd Hx sp (.lst (ns'.map V.int))) := by
  obtain ⟨a, b, c⟩ := h.put t0 (l' := ns'.map V.int) h.s h.f2
  exact ⟨a, b, by rw [upd_ne h.d1]; exact h.l, paired_rtk c h.g h.pr, upd_same, by rw [upd_ne (fun e => h.d3 e.symm)]; exact h.n, Paired.imp2 (fun _ _ z => c.t _ _ z) h.pp, h.f1, h.f2, h.f3, h.d1, h.d2, h.d3, h.g⟩
theorem RS.setN (h : RS K H tp q rl sp sn ts rs ns ps xs Hx) (t0 : TapeQ K H tp q) {ps' : List Addr} {xs' : List IP} (pp : Paired (PairAtT Hx) ps' xs') : RS K H tp q rl sp sn ts rs ns ps' xs' (upd Hx sn (.lst (ps'.map V.ref))) := by
  obtain ⟨a, b, c⟩ := h.put t0 (l' := ps'.map V.ref) h.n h.f3
  exact ⟨a, b, by rw [upd_ne h.d2]; exact h.l, paired_rtk c h.g h.pr, by rw [upd_ne h.d3]; exact h.s, upd_same, Paired.imp2 (fun _ _ z => c.t _ _ z) pp, h.f1, h.f2, h.f3, h.d1, h.d2, h.d3, h.g⟩
/-- another list is the snapshots now -/
theorem RS.newN (h : RS K H tp q rl sp sn ts rs ns ps xs Hx) {D : Addr} {ps' : List Addr} {xs' : List IP} (hD : Hx D = some (.lst (ps'.map V.ref))) (pp : Paired (PairAtT Hx) ps' xs') (f : H D = Option.none) (d2 : rl ≠ D) (d3 : sp ≠ D) : RS K H tp q rl sp D ts rs ns ps' xs' Hx :=
  ⟨h.o, h.t, h.l, h.pr, h.s, hD, pp, h.f1, h.f2, f, h.d1, d2, d3, h.g⟩
theorem RS.tkS (h : RS K H tp q rl sp sn ts rs ns ps xs Hx) (t0 : TapeQ K H tp q) {l : List V} : TK Hx (upd Hx sp (.lst l)) := (h.put t0 h.s h.f2).2.2
theorem RS.tkL (h : RS K H tp q rl sp sn ts rs ns ps xs Hx) (t0 : TapeQ K H tp q) {l : List V} : TK Hx (upd Hx rl (.lst l)) := (h.put t0 h.l h.f1).2.2
theorem RS.tkN (h : RS K H tp q rl sp sn ts rs ns ps xs Hx) (t0 : TapeQ K H tp q) {l : List V} : TK Hx (upd Hx sn (.lst l)) := (h.put t0 h.n h.f3).2.2
end
theorem prD_eqv {x y : IP} : PyData.eqv (prD x) (prD y) = decide (x = y) := by
  obtain ⟨a, b⟩ := x
  obtain ⟨c, d⟩ := y
  simp only [prD, PyData.eqv, PyData.eqvAll, Bool.and_true]
  by_cases h1 : a = c <;> by_cases h2 : b = d <;> simp [h1, h2]
theorem first_at {k : Int} : ∀ {ns : List Int}, k ∈ ns → ∃ j, ns[j]? = some k ∧ ∀ m : Nat, m < j → ns[m]? ≠ some k
  | [], h => nomatch h
  | x :: ns, h => by
    by_cases c : x = k
    · exact ⟨0, by rw [c]; rfl, fun m hm => absurd hm (Nat.not_lt_zero _)⟩
    · obtain ⟨j, h1, h2⟩ := first_at (ns := ns) ((List.mem_cons.mp h).resolve_left fun e => c e.symm)
      refine ⟨j + 1, by simpa using h1, fun m hm => ?_⟩
      cases m with
      | zero => intro e; exact c (by simpa using e)
      | succ m => simpa using h2 m (by omega)
theorem find_pr {x : IP} : ∀ {xs : List IP}, x ∈ xs → ∃ j, ((xs.map prD).findIdx? fun y => PyData.eqv y (prD x)) = some j
  | [], h => nomatch h
  | y :: xs, h => by
    rw [List.map_cons, List.findIdx?_cons, prD_eqv]
    by_cases c : y = x
    · exact ⟨0, by rw [decide_eq_true c]; rfl⟩
    · obtain ⟨j, hj⟩ := find_pr (xs := xs) ((List.mem_cons.mp h).resolve_left fun e => c e.symm)
      exact ⟨j + 1, by rw [decide_eq_false c, hj]; rfl⟩
theorem paired_erase {α β : Type} {F : α → β → Prop} : ∀ {a : List α} {b : List β} {j : Nat}, Paired F a b → Paired F (a.eraseIdx j) (b.eraseIdx j)
  | _, _, _, .nil => .nil
  | _, _, 0, .cons _ t => t
  | _, _, j + 1, .cons r t => .cons r (paired_erase t)
theorem erase_mapR : ∀ (l : List Addr) (j : Nat), (l.map V.ref).eraseIdx j = (l.eraseIdx j).map V.ref
  | [], j => by simp
  | a :: r, 0 => by simp
  | a :: r, j + 1 => by simp [erase_mapR r j]
theorem kind_make {b : Bd} : kindS b = "make" → ∃ n z, b = .make n z := by
  cases b with
  | make n z => exact fun _ => ⟨n, z, rfl⟩
  | _ => exact fun h => absurd h (by dsimp only [kindS]; decide)
theorem kind_snap {b : Bd} : kindS b = "snap" → ∃ n, b = .snap n := by
  cases b with
  | snap n => exact fun _ => ⟨n, rfl⟩
  | _ => exact fun h => absurd h (by dsimp only [kindS]; decide)
theorem kind_drop {b : Bd} : kindS b = "drop" → ∃ n z, b = .drop n z := by
  cases b with
  | drop n z => exact fun _ => ⟨n, z, rfl⟩
  | _ => exact fun h => absurd h (by dsimp only [kindS]; decide)
theorem fld_ne {K : PySem.W.Frag} {H : Hp} {b : Bd} (h : DpAll K H [] (fldD b)) : False := by
  cases b <;> (dsimp only [fldD] at h; cases h)
def spLRecords (K : PySem.W.Frag) : Sp := fun vs H Q _ => ∃ (tp q : Addr) (most : Int), vs = [.ref tp, .int most] ∧ TapeQ K H tp q ∧ 0 < most ∧ most ≤ 50 ∧
  ∀ l ts rs H', Off [tp] H H' → TapeQ K H' tp q → H l = Option.none → H' l = some (.lst (ts.map V.ref)) → Paired (RecAt K H') ts rs → rs.Pairwise (fun x y => x.o < y.o) → (∀ r ∈ rs, RGood r) → (rs.length : Int) ≤ most → 0 < rs.length → Q (.ref l) H'
theorem rgood_of {o h s c : Int} {b : Bd} (g : BGood b) (hk : PyData.strOk (kindS b) = true) : RGood ⟨o, h, s, c, b⟩ := by
  refine ⟨g.t, ?_, ?_⟩
  · simp only [recDt, PyData.canLay0, PyData.canLayAll0, hk, g.l, Bool.and_self]
  · have := g.dp
    simp only [recDt, PyData.depth, PyData.depthAll]
    omega
theorem kind_ok (b : Bd) : PyData.strOk (kindS b) = true := by
  have w : ∀ s ∈ (["mark", "make", "remove", "write", "trim", "snap", "drop", "register", "leave", "reserve", "release", "preempt"] : List Str), PyData.strOk s = true := by decide +kernel
  cases b <;> exact w _ (by dsimp only [kindS]; decide)
section
variable {P : Program} {wd : World} {K : PySem.W.Frag} {mg : Str → Option Value} {base : Heap} {f fN fF : Addr} {fd fdN fdF : FuncData}
end
end Sg

set_option Elab.async false
set_option linter.all false
set_option maxRecDepth 100000
set_option maxHeartbeats 4000000
namespace Sg
open PySem PySem.Spec PyProof.Rows L2
/-! ### the rows of the program: their model -/
def rowsF (rs : List Rc) (k : List Key) : List Rw := (rs.map fun r => rowsE r.o k (effR r)).flatten
def hidF (rs : List Rc) (k : List Key) (o num : Int) : Bool := if strIn (word k) ["host", "told"] = true then false else (rowsF rs (goneK (spaceK k))).any fun x => decide (o < x.1) && decide (x.1 < num)
def lastShown (rs : List Rc) (k : List Key) (num : Int) : Option Rw := match ((rowsF rs k).filter fun x => decide (x.1 < num)).getLast? with
  | none => none
  | some x => if hidF rs k x.1 num = true then none else some x
def presentO (rs : List Rc) : Int := match rs.getLast? with
  | none => 1
  | some r => r.o + 1
def effsF (rs : List Rc) : List Ef := (rs.map effR).flatten
theorem rowsF_snoc {rs : List Rc} {r : Rc} {k : List Key} : rowsF (rs ++ [r]) k = rowsF rs k ++ rowsE r.o k (effR r) := by
  unfold rowsF
  rw [List.map_append, List.flatten_append]
  show _ ++ (rowsE r.o k (effR r) ++ []) = _
  rw [List.append_nil]
theorem effR_len {r : Rc} : (effR r).length ≤ 3 := by
  have : (effB r.o r.h r.b).length ≤ 2 := effB_len
  show (effB r.o r.h r.b).length + 1 ≤ 3
  omega
theorem rowsF_len {k : List Key} : ∀ {rs : List Rc}, (rowsF rs k).length ≤ 3 * rs.length
  | [] => by simp [rowsF]
  | r :: rs => by
    have ih := rowsF_len (k := k) (rs := rs)
    have e1 : rowsF (r :: rs) k = rowsE r.o k (effR r) ++ rowsF rs k := by unfold rowsF; rw [List.map_cons, List.flatten_cons]
    have e2 : (rowsE r.o k (effR r)).length ≤ (effR r).length := List.length_filterMap_le _ _
    have e3 := effR_len (r := r)
    rw [e1, List.length_append, List.length_cons]; omega
theorem effR_k {r : Rc} : ∀ e ∈ effR r, KOk e.1 := by
  intro e he
  rcases List.mem_cons.mp he with rfl | he
  · intro x hx s hs
    rcases List.mem_cons.mp hx with rfl | hx
    · cases hs; decide +kernel
    · rw [List.mem_singleton.mp hx] at hs; cases hs
  · exact effB_k e he
theorem effR_form {r : Rc} : ∀ e ∈ effR r, TForm e.1 := by
  intro e he
  rcases List.mem_cons.mp he with rfl | he
  · exact ⟨"host", r.h, [], rfl⟩
  · exact effB_form e he
theorem effR_t {r : Rc} (g : RGood r) : ∀ e ∈ effR r, tupO e.2 = true := by
  intro e he
  rcases List.mem_cons.mp he with rfl | he
  · show tupO (.tuple [.int r.s, .int r.c, answD (kindS r.b) r.o]) = true
    unfold answD
    split
    · rfl
    · split <;> rfl
  · exact effB_t g e he
/-! ### the rows of the program, in the heap -/
def rf (ol : Addr) (pr : Int) (bt bg sn : Addr) : List (Str × V) := [("ordered", .ref ol), ("present", .int pr), ("_by_topic", .ref bt), ("_begins", .ref bg), ("_snapshots", .ref sn)]
theorem rf_or {ol bt bg sn : Addr} {pr : Int} : List.lookup ("ordered" : Str) (rf ol pr bt bg sn) = some (V.ref ol) := lk_here
theorem rf_pr {ol bt bg sn : Addr} {pr : Int} : List.lookup ("present" : Str) (rf ol pr bt bg sn) = some (V.int pr) := (lk_past (by decide)).trans lk_here
theorem rf_bt {ol bt bg sn : Addr} {pr : Int} : List.lookup ("_by_topic" : Str) (rf ol pr bt bg sn) = some (V.ref bt) := (lk_past (by decide)).trans ((lk_past (by decide)).trans lk_here)
theorem rf_bg {ol bt bg sn : Addr} {pr : Int} : List.lookup ("_begins" : Str) (rf ol pr bt bg sn) = some (V.ref bg) := (lk_past (by decide)).trans ((lk_past (by decide)).trans ((lk_past (by decide)).trans lk_here))
theorem rf_sn {ol bt bg sn : Addr} {pr : Int} : List.lookup ("_snapshots" : Str) (rf ol pr bt bg sn) = some (V.ref sn) := (lk_past (by decide)).trans ((lk_past (by decide)).trans ((lk_past (by decide)).trans ((lk_past (by decide)).trans lk_here)))
theorem rf_no {m : Str} {ol bt bg sn : Addr} {pr : Int} (h1 : (m == ("ordered" : Str)) = false) (h2 : (m == ("present" : Str)) = false) (h3 : (m == ("_by_topic" : Str)) = false) (h4 : (m == ("_begins" : Str)) = false) (h5 : (m == ("_snapshots" : Str)) = false) : List.lookup m (rf ol pr bt bg sn) = none :=
  (lk_past h1).trans ((lk_past h2).trans ((lk_past h3).trans ((lk_past h4).trans ((lk_past h5).trans rfl))))
structure CT (K : PySem.W.Frag) (mg : Str → Option Value) (C : Addr) : Prop where
  cl : Cls K C
  k_or : NoAttr K C "ordered"
  k_pr : NoAttr K C "present"
  k_bt : NoAttr K C "_by_topic"
  k_be : NoAttr K C "_begins"
  k_sn : NoAttr K C "_snapshots"
  gC : mg "Rows" = some (.ref C)
abbrev TKV := List (List Key × V)
structure BT (K : PySem.W.Frag) (H : Hp) (bt : Addr) (rs : List Rc) (kvs : TKV) : Prop where
  d : Rd H bt (.dT kvs)
  nd : (kvs.map (·.1)).Nodup
  yes : ∀ k, rowsF rs k ≠ [] → ∃ l ps, valV kvs k = some (.ref l) ∧ H l = some (.lst (ps.map V.ref)) ∧ Paired (RowAt K H) ps (rowsF rs k)
  no : ∀ k, rowsF rs k = [] → valV kvs k = none
  ln : kvs.length ≤ 3 * rs.length
theorem rd_same {H H' : Hp} {a : Addr} {o : HO} (h : Rd H a o) (s : Same H H') : Rd H' a o := by
  rcases h with h | ⟨b, h⟩
  · exact .inl (s _ _ h)
  · exact .inr ⟨b, s _ _ h⟩
theorem BT.same {K : PySem.W.Frag} {H H' : Hp} {bt : Addr} {rs : List Rc} {kvs : TKV} (h : BT K H bt rs kvs) (s : Same H H') : BT K H' bt rs kvs :=
  ⟨rd_same h.d s, h.nd, fun k hk => by
    obtain ⟨l, ps, a, b, c⟩ := h.yes k hk
    exact ⟨l, ps, a, s _ _ b, paired_rsame s c⟩, h.no, h.ln⟩
/-- the object, as far as its rows go -/
def RO (K : PySem.W.Frag) (C : Addr) (H : Hp) (p : Addr) (rs : List Rc) : Prop := ∃ dx ol bt bg sn kvs, H p = some (.ins C dx (rf ol (presentO rs) bt bg sn)) ∧ BT K H bt rs kvs
theorem RO.same {K : PySem.W.Frag} {C : Addr} {H H' : Hp} {p : Addr} {rs : List Rc} (h : RO K C H p rs) (s : Same H H') : RO K C H' p rs := by
  obtain ⟨dx, ol, bt, bg, sn, kvs, a, b⟩ := h
  exact ⟨dx, ol, bt, bg, sn, kvs, s _ _ a, b.same s⟩
def KeyAt (H : Hp) (t : Addr) (k : List Key) : Prop := H t = some (.tup (k.map kV))
/-- [f(x) for x in a list], no condition: what comes of each is told -/
theorem lc_mapL {K : PySem.W.Frag} {σ : L2.St} {H1 : Hp} {D a : Addr} {vs : List Nat} {g : TG} {xs : List V} {te : TE} {Qd : Hp → Prop} (ys : List V) (hb : ys.length = xs.length) (hD : H1 D = Option.none) (hx : SqL K H1 a xs) (hz : xs.length ≤ sizeLine)
    (he : ∀ (i : Nat) (x y : V) (H' : Hp) (R : VK) (R' : Hp → Prop), xs[i]? = some x → ys[i]? = some y → Same H1 H' → (∀ H'', Same H' H'' → R y H'') → g x (wipe σ vs) H' fun σ2 H2 => wipe σ2 vs = wipe σ vs ∧ tYes σ2 H2 fun b H3 => if b = true then te σ2 H3 R else R' H3)
    (hd : ∀ H', Same H1 H' → H' D = some (.lst ys) → Qd H') :
    ∃ W : Nat → Nat → Hp → Prop, (∃ m, W 0 m (upd H1 D (.lst []))) ∧ ∀ i m H, W i m H →
      ((Itl K a).stop i H ∧ Qd H) ∨ ((Itl K a).go i H ∧ ∃ Nx : Hp → Prop, (∀ H', Nx H' → ∃ m', m' < m ∧ W (i + 1) m' H') ∧ ∀ x H', (Itl K a).yld i H x H' → g x (wipe σ vs) H' fun σ2 H2 => wipe σ2 vs = wipe σ vs ∧ tYes σ2 H2 fun b H3 =>
        if b = true then te σ2 H3 fun y H4 => ∃ acc, H4 D = some (.lst acc) ∧ acc.length < sizeLine ∧ Nx (upd H4 D (.lst (acc ++ [y]))) else Nx H3) := by
  refine lc_list (K := K) (a := a) (xs := xs) (fun i H' => i ≤ xs.length ∧ Same H1 H' ∧ H' D = some (.lst (ys.take i))) ⟨Nat.zero_le _, same_new hD, by rw [List.take_zero]; exact upd_same⟩ (fun i H' _ ⟨_, sm, _⟩ => sm.seq hx) ?_ ?_
  · rintro i x H' hi ⟨_, sm, hDl⟩
    have hil := (List.getElem?_eq_some_iff.mp hi).1
    obtain ⟨y, hyi⟩ : ∃ y, ys[i]? = some y := ⟨ys[i]'(by omega), List.getElem?_eq_getElem (by omega)⟩
    refine he i x y H' _ _ hi hyi sm fun H'' s2 => ?_
    have hD2 := s2 _ _ hDl
    refine ⟨_, hD2, by rw [List.length_take]; omega, by omega, ?_, ?_⟩
    · intro z o hz'
      rw [upd_ne (ne_of_none hz' hD)]
      exact s2 _ _ (sm _ _ hz')
    · rw [upd_same, List.take_add_one, hyi]; rfl
  · rintro H' ⟨_, sm, hDl⟩
    refine hd H' sm ?_
    rw [← hb, List.take_length] at hDl
    exact hDl
/-- d.get(topic, []): the rows' list -/
theorem get_rows {K : PySem.W.Frag} {H : Hp} {bt b z : Addr} {rs : List Rc} {kvs : TKV} {k : List Key} (h : BT K H bt rs kvs) (hb : KeyAt H b k) (hz : H z = some (.lst [])) : ∃ o l ps, DGet H bt (.ref b) o ∧ o.getD (.ref z) = .ref l ∧ H l = some (.lst (ps.map V.ref)) ∧ Paired (RowAt K H) ps (rowsF rs k) := by
  refine ⟨valV kvs k, ?_⟩
  have g : DGet H bt (.ref b) (valV kvs k) := .inr ⟨kvs, k, b, h.d, rfl, hb, rfl⟩
  by_cases c : rowsF rs k = []
  · refine ⟨z, [], g, by rw [h.no k c]; rfl, hz, by rw [c]; exact .nil⟩
  · obtain ⟨l, ps, e, a1, a2⟩ := h.yes k c
    exact ⟨l, ps, g, by rw [e]; rfl, a1, a2⟩
def spHidden (K : PySem.W.Frag) (C : Addr) : Sp := fun vs H Q _ => ∃ (p tt : Addr) (rs : List Rc) (k : List Key) (o num : Int), vs = [.ref p, .ref tt, .int o, .int num] ∧ RO K C H p rs ∧ KeyAt H tt k ∧ TForm k ∧ rs.length ≤ 100 ∧ ∀ H', Same H H' → Q (.bl (hidF rs k o num)) H'
def ShownV (K : PySem.W.Frag) (H : Hp) (v : V) : Option Rw → Prop
  | none => v = .non
  | some x => ∃ p, v = .ref p ∧ RowAt K H p x
def spLastShown (K : PySem.W.Frag) (C : Addr) : Sp := fun vs H Q _ => ∃ (p tt : Addr) (rs : List Rc) (k : List Key) (num : Int), vs = [.ref p, .ref tt, .int num] ∧ RO K C H p rs ∧ KeyAt H tt k ∧ TForm k ∧ rs.length ≤ 100 ∧ ∀ v H', Same H H' → ShownV K H' v (lastShown rs k num) → Q v H'
theorem rows_nat {K : PySem.W.Frag} {H : Hp} {g : Rw → Bool} : ∀ {ps : List Addr} {xs : List Rw}, Paired (RowAt K H) ps xs → ((xs.map fun x => V.bl (g x)).length = (ps.map V.ref).length)
  | _, _, .nil => rfl
  | _, _, .cons _ t => by simp only [List.map_cons, List.length_cons]; exact congrArg _ (rows_nat t)
section
variable {P : Program} {wd : World} {K : PySem.W.Frag} {mg : Str → Option Value} {base : Heap} {f fH C aHT : Addr} {fd fdH : FuncData}
theorem scHidden : FnScope ["self", "topic", "order", "number", "gone", "_"] ["self", "topic", "order", "number"] (defScope (cR 6)) := ⟨rfl, rfl, rfl, by decide +kernel, rfl, by decide +kernel, by decide +kernel⟩
theorem ok_hidden (F : Fun K "_is_hidden" "Rows._is_hidden" (cR 6) f fd) (T : CT K mg C) (B : BN mg) (hHT : mg "HOST_TOPICS" = some (.ref aHT)) (tHT : ∀ H, SqT K H aHT [.str "host", .str "told"]) : FnOk P wd K mg base CX0 1 f fd ["self", "topic", "order", "number"] (spHidden K C) := by
  refine F.ok scHidden (fun vs H Q E h => ?_) (fun cdv A outer s H vs Q E hr h => ?_)
  · obtain ⟨p, tt, rs, k, o, num, rfl, _⟩ := h
    rfl
  · obtain ⟨p, tt, rs, k, o, num, rfl, hro, hk, ⟨kw, kn, kr, ek⟩, hn, q⟩ := h
    refine ⟨_, (pss_cons (ps_if (pt_cmpR op_in_seq (pe_ix ix_tup (pv 1) pe_int (fun _ _ => rfl)) (pe_glob (v := .ref aHT) (by rfl) hHT rfl) (by rfl))
      (pss_one (ps_ret pe_bl)) pss_nil)
      (pss_one (ps_ret (pe_callB (cr_any rfl) (by rfl) B.any (by decide +kernel) (pa_cons (pe_lc (own := [("gone", 4), ("_", 5)]) (g := gTup K 2 (gCons (gName 4) (gCons (gName 5) gNil))) (tt := tYes) (te := tChain (rI0 fun i j => .bl (decide (i < j))) (rI0 fun i j => .bl (decide (i < j))) (tVar 2) (tVar 4) (tVar 3)) (by rfl) scHidden.nd (pi_list (pe_dget2 (hu_of hr) (pe_fld (pv 0) rfl) (pe_tup (pa_cons pe_str (pa_cons (pe_ix ix_tup (pv 1) pe_int (fun _ _ => rfl)) pa_nil))) (pe_lst pa_nil) ⟨rfl, rfl, rfl, rfl⟩)) (blkOk_by (own := [("gone", 4), ("_", 5)]) (N := ["self", "topic", "order", "number", "gone", "_"]) (sc := defScope (cR 6)) (by decide +kernel)) (fun _ _ _ _ _ => pg_tup (by rfl) (pgs_cons (pg_name (i := 4) scHidden.nd rfl (Or.inl rfl)) (pgs_cons (pg_name (i := 5) scHidden.nd rfl (Or.inl rfl)) L2.pgs_nil))) (fun _ _ _ _ _ => pts_nil) (fun _ _ _ _ _ => by exact (pe_chain op_lt op_lt (pv 2) (pv 4) (pv 3)))) pa_nil))))), ?_⟩
    have hww : word k = kw := by rw [ek]; rfl
    have hss : spaceK k = kn := by rw [ek]; rfl
    have hk' : H tt = some (.tup (V.str kw :: V.int kn :: kr.map kV)) := by
      have z : H tt = some (.tup (k.map kV)) := hk
      rw [ek] at z; exact z
    refine ⟨_, rfl, tt, _, _, _, rfl, rfl, SqT.of hk', atI_nat (j := 0) rfl, aHT, _, rfl, .inr (tHT _), rfl, (flat_strs (ns := ["host", "told"])), _, rfl, ?_⟩
    rw [show ([V.str "host", V.str "told"] : List V) = (["host", "told"] : List Str).map V.str from rfl, inV_str]
    cases ch : strIn kw ["host", "told"] with
    | true =>
      have z := q H (Same.refl H)
      unfold hidF at z
      rw [hww, ch, if_pos rfl] at z
      exact iteT z
    | false =>
      refine iteF ?_
      obtain ⟨dx, ol, bt, bg, sn, kvs, hp, hbt⟩ := hro
      refine ⟨_, rfl, p, C, _, _, _, rfl, hp, T.cl, T.k_bt, rf_bt, bt, rfl, .inr ⟨kvs, hbt.d⟩, _, rfl, tt, _, _, _, rfl, rfl, SqT.of hk', atI_nat (j := 1) rfl, by show 2 ≤ sizeLine; decide, fun gt hgt => ⟨by show 0 ≤ sizeLine; decide, fun z hz => ?_⟩⟩
      have s1 := same_new (o := .tup [.str "gone", .int kn]) hgt
      have s2 := same_new (o := .lst []) hz
      have hg2 : (upd (upd H gt (.tup [.str "gone", .int kn])) z (.lst [])) gt = some (.tup [.str "gone", .int kn]) := s2 _ _ upd_same
      have hz2 : (upd (upd H gt (.tup [.str "gone", .int kn])) z (.lst [])) z = some (.lst []) := upd_same
      generalize upd (upd H gt (.tup [.str "gone", .int kn])) z (.lst []) = H2 at s2 hg2 hz2
      have s12 := s1.trans s2
      obtain ⟨ov, l, ps, g1, g2, g3, g4⟩ := get_rows (k := goneK kn) (hbt.same s12) hg2 hz2
      have rl := rowsF_len (rs := rs) (k := goneK kn)
      have pl := g4.length
      refine ⟨ov, g1, l, g2, ⟨_, SqL.of g3⟩, fun D hD => ?_⟩
      refine lc_mapL ((rowsF rs (goneK kn)).map fun x => V.bl (decide (o < x.1) && decide (x.1 < num))) (rows_nat g4) hD (SqL.of g3) (by rw [List.length_map]; exact Nat.le_of_lt (small1000 (by omega))) (fun i x y H' R R' hx hy sm r => ?_) fun H3 s3 hDl => ?_
      · obtain ⟨t, hti, rfl⟩ := map_get hx
        obtain ⟨w, hwi, v, w1, w2⟩ := paired_at g4 hti
        rw [List.getElem?_map, hwi] at hy
        cases hy
        refine ⟨t, _, rfl, SqT.of (sm _ _ w1), rfl, _, _, rfl, _, _, rfl, rfl, rfl, yesIte ?_⟩
        refine ⟨_, rfl, _, rfl, _, _, rfl, rfl, _, rfl, ?_⟩
        dsimp only at r
        cases c1 : decide (o < w.1) with
        | false =>
          rw [c1] at r
          exact iteF (r H' (Same.refl H'))
        | true =>
          rw [c1] at r
          exact iteT ⟨_, rfl, _, _, rfl, rfl, r H' (Same.refl H')⟩
      · refine nil_ ⟨D, ((rowsF rs (goneK kn)).map fun x => decide (o < x.1) && decide (x.1 < num)), rfl, SqL.of (by rw [hDl, List.map_map]; rfl), ?_⟩
        have e : hidF rs k o num = ((rowsF rs (goneK kn)).map fun x => decide (o < x.1) && decide (x.1 < num)).any id := by
          unfold hidF
          rw [hww, ch, if_neg (by decide), hss, List.any_map]; rfl
        rw [← e]
        exact q H3 (s12.trans s3)
end
end Sg

set_option Elab.async false
set_option linter.all false
set_option maxRecDepth 100000
set_option maxHeartbeats 4000000
namespace Sg
open PySem PySem.Spec PyProof.Rows L2
/-! ### the other methods of the rows -/
def shownB (rs : List Rc) (k : List Key) : Bool := match lastShown rs k (presentO rs) with
  | none => false
  | some x => !noneQ x.2
def snapK (n m : Int) : List Key := [.inr "snap", .inl n, .inl m]
def SnapEx (rs : List Rc) (n m : Int) : Prop := shownB rs (snapK n m) = true
def begO (rs : List Rc) (n : Int) : Option Int := (rs.find? fun r => memberR r n).map (·.o)
structure SnD (H : Hp) (sks : List (Key × V)) (rs : List Rc) : Prop where
  yes : ∀ n : Int, begO rs n ≠ none → ∃ (l : Addr) (zs : List Int), valV sks (.inl n) = some (.ref l) ∧ H l = some (.lst (zs.map V.int)) ∧ zs.length ≤ 400 ∧ (∀ m, m ∈ zs ↔ SnapEx rs n m) ∧ zs.Nodup
  no : ∀ n : Int, begO rs n = none → valV sks (.inl n) = none
def RA (K : PySem.W.Frag) (C : Addr) (H : Hp) (p : Addr) (rs : List Rc) : Prop := ∃ dx ol ts bt bg sn kvs bks sks, H p = some (.ins C dx (rf ol (presentO rs) bt bg sn)) ∧ BT K H bt rs kvs ∧ H ol = some (.lst (ts.map V.ref)) ∧ Paired (RecAt K H) ts rs ∧ H bg = some (.dK bks) ∧ (∀ n : Int, valV bks (.inl n) = (begO rs n).map V.int) ∧ H sn = some (.dK sks) ∧ SnD H sks rs
theorem RA.ro {K : PySem.W.Frag} {C : Addr} {H : Hp} {p : Addr} {rs : List Rc} (h : RA K C H p rs) : RO K C H p rs := by
  obtain ⟨dx, ol, ts, bt, bg, sn, kvs, bks, sks, a, b, _⟩ := h
  exact ⟨dx, ol, bt, bg, sn, kvs, a, b⟩
theorem RA.same {K : PySem.W.Frag} {C : Addr} {H H' : Hp} {p : Addr} {rs : List Rc} (h : RA K C H p rs) (s : Same H H') : RA K C H' p rs := by
  obtain ⟨dx, ol, ts, bt, bg, sn, kvs, bks, sks, a, b, c, d, e, f, g, i⟩ := h
  refine ⟨dx, ol, ts, bt, bg, sn, kvs, bks, sks, s _ _ a, b.same s, s _ _ c, Paired.imp2 (fun _ _ z => z.same s) d, s _ _ e, f, s _ _ g, fun n hn => ?_, i.no⟩
  obtain ⟨l, zs, a1, a2, a3⟩ := i.yes n hn
  exact ⟨l, zs, a1, s _ _ a2, a3⟩
theorem rowsE_of {o : Int} {k : List Key} {es : List Ef} {x : Rw} (h : x ∈ rowsE o k es) : ∃ e ∈ es, e.1 = k := by
  obtain ⟨e, he, z⟩ := List.mem_filterMap.mp h
  split at z
  · exact ⟨e, he, by assumption⟩
  · cases z
theorem rowsF_of {rs : List Rc} {k : List Key} {x : Rw} (h : x ∈ rowsF rs k) : ∃ r ∈ rs, x.1 = r.o ∧ ∃ e ∈ effR r, e.1 = k := by
  obtain ⟨l, hl, hx⟩ := List.mem_flatten.mp h
  obtain ⟨r, hr, rfl⟩ := List.mem_map.mp hl
  exact ⟨r, hr, rowsE_o x hx, rowsE_of hx⟩
theorem rowsF_ex {rs : List Rc} {k : List Key} : rowsF rs k ≠ [] ↔ ∃ r ∈ rs, ∃ e ∈ effR r, e.1 = k := by
  constructor
  · intro h
    obtain ⟨x, hx⟩ := List.exists_mem_of_ne_nil _ h
    obtain ⟨r, hr, _, e⟩ := rowsF_of hx
    exact ⟨r, hr, e⟩
  · rintro ⟨r, hr, e, he, hk⟩ h
    have : (r.o, e.2) ∈ rowsF rs k := List.mem_flatten.mpr ⟨_, List.mem_map.mpr ⟨r, hr, rfl⟩, List.mem_filterMap.mpr ⟨e, he, if_pos hk⟩⟩
    rw [h] at this; cases this
theorem member_of {r : Rc} {e : Ef} {w : Str} {n : Int} {s : List Key} (he : e ∈ effR r) (hk : e.1 = .inr w :: .inl n :: s) (h1 : w ≠ "host") (h2 : w ≠ "told") : memberR r n = true := by
  rcases List.mem_cons.mp he with rfl | he
  · have : (Sum.inr "host" : Key) = .inr w := by injection hk
    exact absurd (Sum.inr.inj this).symm h1
  · unfold memberR
    refine List.any_eq_true.mpr ⟨e, he, ?_⟩
    rw [hk]
    show (decide (n = n) && decide (w ≠ "told")) = true
    rw [decide_eq_true rfl, decide_eq_true h2]; rfl
theorem begO_none {rs : List Rc} {n : Int} : begO rs n = none ↔ ∀ r ∈ rs, memberR r n = false := by
  unfold begO
  rw [Option.map_eq_none_iff, List.find?_eq_none]
  exact ⟨fun h r hr => by have := h r hr; simpa using this, fun h r hr => by rw [h r hr]; simp⟩
theorem snap_none {rs : List Rc} {n m : Int} (h : begO rs n = none) : ¬ SnapEx rs n m := by
  intro z
  unfold SnapEx shownB at z
  have e : rowsF rs (snapK n m) = [] := by
    rcases Classical.em (rowsF rs (snapK n m) = []) with e | e
    · exact e
    · obtain ⟨r, hr, ef, he, hk⟩ := rowsF_ex.mp e
      have := begO_none.mp h r hr
      rw [member_of he hk (by decide) (by decide)] at this; cases this
  have e2 : lastShown rs (snapK n m) (presentO rs) = none := by
    unfold lastShown
    rw [e]; rfl
  rw [e2] at z; cases z
def spTopics (K : PySem.W.Frag) (C : Addr) : Sp := fun vs H Q _ => ∃ (p : Addr) (rs : List Rc), vs = [.ref p] ∧ RO K C H p rs ∧
  ∀ l bs ks H', Same H H' → H l = Option.none → H' l = some (.lst (bs.map V.ref)) → Paired (KeyAt H') bs ks → ks.Nodup → (∀ k, k ∈ ks ↔ rowsF rs k ≠ []) → ks.length ≤ 3 * rs.length → Q (.ref l) H'
def spAllOf (K : PySem.W.Frag) (C : Addr) : Sp := fun vs H Q _ => ∃ (p tt : Addr) (rs : List Rc) (k : List Key), vs = [.ref p, .ref tt] ∧ RO K C H p rs ∧ KeyAt H tt k ∧
  ∀ l ps H', Same H H' → H' l = some (.lst (ps.map V.ref)) → Paired (RowAt K H') ps (rowsF rs k) → Q (.ref l) H'
def spSnaps (K : PySem.W.Frag) (C : Addr) : Sp := fun vs H Q _ => ∃ (p : Addr) (rs : List Rc) (n : Int), vs = [.ref p, .int n] ∧ RA K C H p rs ∧
  ∀ (l : Addr) (zs : List Int) (H' : Hp), Same H H' → H' l = some (.lst (zs.map V.int)) → (∀ m, m ∈ zs ↔ SnapEx rs n m) → zs.length ≤ 400 → zs.Pairwise (· ≤ ·) → zs.Nodup → Q (.ref l) H'
def spBegins (K : PySem.W.Frag) (C : Addr) : Sp := fun vs H Q _ => ∃ (p : Addr) (rs : List Rc) (n o : Int), vs = [.ref p, .int n] ∧ RA K C H p rs ∧ begO rs n = some o ∧ Q (.int o) H
def spExists (K : PySem.W.Frag) (C : Addr) : Sp := fun vs H Q _ => ∃ (p tt : Addr) (rs : List Rc) (k : List Key), vs = [.ref p, .ref tt] ∧ RO K C H p rs ∧ KeyAt H tt k ∧ TForm k ∧ rs.length ≤ 100 ∧ ∀ H', Same H H' → Q (.bl (shownB rs k)) H'
theorem keys_same {H H' : Hp} (s : Same H H') {bs : List Addr} {ks : Tops} (h : Paired (KeyAt H) bs ks) : Paired (KeyAt H') bs ks := Paired.imp2 (fun _ _ z => s _ _ z) h
theorem isKeys_paired {H : Hp} : ∀ {kvs : TKV} {bs : List Addr}, IsKeys H kvs bs → Paired (KeyAt H) bs (kvs.map (·.1))
  | _, _, .nil => .nil
  | _, _, .cons a t => .cons a (isKeys_paired t)
theorem mem_val {kvs : TKV} {k : List Key} : k ∈ kvs.map (·.1) ↔ valV kvs k ≠ none := by
  have z := valV_any k kvs
  constructor
  · intro h e
    obtain ⟨p, hp, ep⟩ := List.mem_map.mp h
    rw [e] at z
    have : (kvs.any fun kv => decide (kv.1 = k)) = true := List.any_eq_true.mpr ⟨p, hp, decide_eq_true ep⟩
    rw [this] at z; cases z
  · intro h
    have : (valV kvs k).isSome = true := Option.isSome_iff_ne_none.mpr h
    rw [← z] at this
    obtain ⟨p, hp, ep⟩ := List.any_eq_true.mp this
    exact List.mem_map.mpr ⟨p, hp, of_decide_eq_true ep⟩
theorem BT.mem {K : PySem.W.Frag} {H : Hp} {bt : Addr} {rs : List Rc} {kvs : TKV} (h : BT K H bt rs kvs) {k : List Key} : k ∈ kvs.map (·.1) ↔ rowsF rs k ≠ [] := by
  rw [mem_val]
  constructor
  · exact fun z e => z (h.no k e)
  · intro z e
    obtain ⟨l, ps, a, _⟩ := h.yes k z
    rw [a] at e; cases e
section
variable {P : Program} {wd : World} {K : PySem.W.Frag} {mg : Str → Option Value} {base : Heap} {f fH fL C aHT : Addr} {fd fdH fdL : FuncData}
theorem scLastShown : FnScope ["self", "topic", "number", "counting", "row"] ["self", "topic", "number"] (defScope (cR 3)) := ⟨rfl, rfl, rfl, by decide +kernel, rfl, by decide +kernel, by decide +kernel⟩
theorem ok_lastShown (F : Fun K "last_shown" "Rows.last_shown" (cR 3) f fd) (T : CT K mg C) (MH : Mth P wd K mg base CX0 C "_is_hidden" 1 ["self", "topic", "order", "number"] (spHidden K C) fH fdH) : FnOk P wd K mg base CX0 2 f fd ["self", "topic", "number"] (spLastShown K C) := by
  refine F.ok scLastShown (fun vs H Q E h => ?_) (fun cdv A outer s H vs Q E hr h => ?_)
  · obtain ⟨p, tt, rs, k, num, rfl, _⟩ := h
    rfl
  · obtain ⟨p, tt, rs, k, num, rfl, hro, hk, hf, hn, q⟩ := h
    refine ⟨_, (pss_cons (ps_setLc (i := 3) (own := [("row", 4)]) (g := gName 4) (tt := (tTest (tOp (rI0 fun i j => .bl (decide (i < j))) (tOp (rIxT K) (tVar 4) (tC (.int 0))) (tVar 2)))) (te := tVar 4) (by rfl) scLastShown.nd rfl rfl (sw_true rfl rfl rfl (by decide +kernel)) (pi_list (pe_dget2 (hu_of hr) (pe_fld (pv 0) rfl) (pv 1) (pe_lst pa_nil) ⟨rfl, rfl, rfl, rfl⟩)) (blkOk_by (own := [("row", 4)]) (N := ["self", "topic", "number", "counting", "row"]) (sc := defScope (cR 3)) (by decide +kernel)) (fun _ _ _ _ _ => pg_name (i := 4) scLastShown.nd rfl (Or.inl rfl)) (fun _ _ _ _ _ => pts_one (pt_cmpR op_lt (pe_ix ix_tup (pv 4) pe_int (fun _ _ => rfl)) (pv 2) (nomark _))) (fun _ _ _ _ _ => by exact (pv 4)))
      (pss_cons (ps_if (PW.pt (pw_or (pt_not (pt_truth (pv 3) (by intro _; rfl))) (pw_or1 (pt_val (pe_meth (pv 0) T.cl MH.me MH.ok hr MH.bd .nil pass0 (pa_cons (pv 1) (pa_cons (pe_ix ix_tup (pe_ix ix_list (pv 3) (pe_un un_neg pe_int) (fun _ _ => rfl)) pe_int (fun _ _ => rfl)) (pa_cons (pv 2) pa_nil))))))))
      (pss_one (ps_ret pe_non)) pss_nil)
      (pss_one (ps_ret (pe_ix ix_list (pv 3) (pe_un un_neg pe_int) (fun _ _ => rfl)))))), ?_⟩
    obtain ⟨dx, ol, bt, bg, sn, kvs, hp, hbt⟩ := id hro
    refine ⟨_, rfl, p, C, _, _, _, rfl, hp, T.cl, T.k_bt, rf_bt, bt, rfl, .inr ⟨kvs, hbt.d⟩, _, rfl, by show 0 ≤ sizeLine; decide, fun z hz => ?_⟩
    have s1 := same_new (o := .lst []) hz
    have hz1 : (upd H z (.lst [])) z = some (.lst []) := upd_same
    generalize upd H z (.lst []) = H1 at s1 hz1
    obtain ⟨ov, l, ps, g1, g2, g3, g4⟩ := get_rows (k := k) (hbt.same s1) (s1 _ _ hk) hz1
    have rl := rowsF_len (rs := rs) (k := k)
    have pl := g4.length
    refine ⟨ov, g1, l, g2, ⟨_, SqL.of g3⟩, fun D hD => ?_⟩
    refine lc_filtB ((rowsF rs k).map fun x => decide (x.1 < num)) (by rw [List.length_map, List.length_map, pl]) hD (SqL.of g3) (fun _ => rfl) (by rw [List.length_map]; exact Nat.le_of_lt (small1000 (by omega))) (fun i x b H' Q' hx hb sm kk => ?_) (fun x H' Q' hm kk => ⟨_, rfl, kk⟩) fun H2 s2 hDl => ?_
    · obtain ⟨t, hti, rfl⟩ := map_get hx
      obtain ⟨w, hwi, v, w1, w2⟩ := paired_at g4 hti
      rw [List.getElem?_map, hwi] at hb
      cases hb
      dsimp only at kk
      exact ⟨_, rfl, t, _, _, _, rfl, rfl, SqT.of (sm _ _ w1), atI_nat (j := 0) rfl, _, rfl, _, _, rfl, rfl, _, rfl, kk H' (Same.refl H')⟩
    · obtain ⟨ps', e1, pr⟩ := keepB_paired (p := fun x : Rw => decide (x.1 < num)) g4
      rw [e1] at hDl
      have pr2 := paired_rsame s2 pr
      have s12 := s1.trans s2
      rcases List.eq_nil_or_concat ((rowsF rs k).filter fun x => decide (x.1 < num)) with e | ⟨xs, x, e⟩
      · rw [e] at pr2
        cases pr2
        have el : lastShown rs k num = none := by unfold lastShown; rw [e]; rfl
        refine ⟨_, rfl, false, .inl ⟨[], SqL.of hDl, rfl⟩, ?_⟩
        refine iteT ?_
        exact q .non H2 s12 (by rw [el]; rfl)
      · rw [List.concat_eq_append] at e
        have e2 : ((rowsF rs k).filter fun x => decide (x.1 < num)).getLast? = some x := by rw [e]; exact List.getLast?_concat
        rw [e] at pr2
        obtain ⟨qs, p', eps, hrow⟩ := paired_last pr2
        obtain ⟨v1, a1, a2⟩ := id hrow
        rw [eps, List.map_append] at hDl
        have ls : lastShown rs k num = if hidF rs k x.1 num = true then none else some x := by unfold lastShown; rw [e2]
        refine ⟨_, rfl, true, .inl ⟨_, SqL.of hDl, ?_⟩, ?_⟩
        · cases qs <;> rfl
        refine iteF ⟨_, rfl, p, _, _, rfl, s12 _ _ hp, rf_no (by decide) (by decide) (by decide) (by decide) (by decide), _, rfl, _, rfl, 1, rfl, D, _, _, V.ref p', rfl, rfl, SqL.of hDl, atI_last _ _, p', _, _, _, rfl, rfl, SqT.of a1, atI_nat (j := 0) rfl, _, rfl, p, tt, rs, k, x.1, num, rfl, hro.same s12, s12 _ _ hk, hf, hn, fun H3 s3 => ⟨_, rfl, ?_⟩⟩
        cases hh : hidF rs k x.1 num with
        | true => exact iteT (q .non H3 (s12.trans s3) (by rw [ls, hh, if_pos rfl]; rfl))
        | false => exact iteF ⟨_, rfl, 1, rfl, D, _, _, V.ref p', rfl, rfl, SqL.of (s3 _ _ hDl), atI_last _ _, q _ H3 (s12.trans s3) (by rw [ls, hh, if_neg (by decide)]; exact ⟨p', rfl, hrow.same s3⟩)⟩
theorem scTopics : FnScope ["self"] ["self"] (defScope (cR 1)) := ⟨rfl, rfl, rfl, by decide +kernel, rfl, by decide +kernel, by decide +kernel⟩
theorem ok_topics (F : Fun K "topics" "Rows.topics" (cR 1) f fd) (T : CT K mg C) (B : BN mg) : FnOk P wd K mg base CX0 1 f fd ["self"] (spTopics K C) := by
  refine F.ok scTopics (fun vs H Q E h => ?_) (fun cdv A outer s H vs Q E hr h => ?_)
  · obtain ⟨p, rs, rfl, _⟩ := h
    rfl
  · obtain ⟨p, rs, rfl, hro, q⟩ := h
    refine ⟨_, (pss_one (ps_ret (pe_callTy (call_list_dT rfl) (by rfl) B.list (by decide +kernel) (pa_cons (pe_fld (pv 0) rfl) pa_nil)))), ?_⟩
    obtain ⟨dx, ol, bt, bg, sn, kvs, hp, hbt⟩ := id hro
    refine ⟨_, rfl, p, C, _, _, _, rfl, hp, T.cl, T.k_bt, rf_bt, nil_ ⟨bt, kvs, rfl, hbt.d, fun l bs hl hb => ?_⟩⟩
    refine q l bs (kvs.map (·.1)) _ (same_new hl) hl upd_same (keys_same (same_new hl) (isKeys_paired hb)) hbt.nd (fun k => hbt.mem) (by rw [List.length_map]; exact hbt.ln)
theorem scAllOf : FnScope ["self", "topic"] ["self", "topic"] (defScope (cR 2)) := ⟨rfl, rfl, rfl, by decide +kernel, rfl, by decide +kernel, by decide +kernel⟩
theorem ok_allOf (F : Fun K "all_of" "Rows.all_of" (cR 2) f fd) (T : CT K mg C) (B : BN mg) : FnOk P wd K mg base CX0 1 f fd ["self", "topic"] (spAllOf K C) := by
  refine F.ok scAllOf (fun vs H Q E h => ?_) (fun cdv A outer s H vs Q E hr h => ?_)
  · obtain ⟨p, tt, rs, k, rfl, _⟩ := h
    rfl
  · obtain ⟨p, tt, rs, k, rfl, hro, hk, q⟩ := h
    refine ⟨_, (pss_one (ps_ret (pe_callTy call_list_of (by rfl) B.list (by decide +kernel) (pa_cons (pe_dget2 (hu_of hr) (pe_fld (pv 0) rfl) (pv 1) (pe_lst pa_nil) ⟨rfl, rfl, rfl, rfl⟩) pa_nil)))), ?_⟩
    obtain ⟨dx, ol, bt, bg, sn, kvs, hp, hbt⟩ := id hro
    refine ⟨_, rfl, p, C, _, _, _, rfl, hp, T.cl, T.k_bt, rf_bt, bt, rfl, .inr ⟨kvs, hbt.d⟩, _, rfl, by show 0 ≤ sizeLine; decide, fun z hz => ?_⟩
    have s1 := same_new (o := .lst []) hz
    have hz1 : (upd H z (.lst [])) z = some (.lst []) := upd_same
    generalize upd H z (.lst []) = H1 at s1 hz1
    obtain ⟨ov, l, ps, g1, g2, g3, g4⟩ := get_rows (k := k) (hbt.same s1) (s1 _ _ hk) hz1
    refine ⟨ov, g1, ?_⟩
    rw [g2]
    exact nil_ ⟨l, _, rfl, .inl (SqL.of g3), fun l' hl' => q l' ps _ (s1.trans (same_new hl')) upd_same (paired_rsame (same_new hl') g4)⟩
theorem scSnaps : FnScope ["self", "namespace"] ["self", "namespace"] (defScope (cR 4)) := ⟨rfl, rfl, rfl, by decide +kernel, rfl, by decide +kernel, by decide +kernel⟩
theorem ok_snaps (F : Fun K "snapshots" "Rows.snapshots" (cR 4) f fd) (T : CT K mg C) (B : BN mg) : FnOk P wd K mg base CX0 1 f fd ["self", "namespace"] (spSnaps K C) := by
  refine F.ok scSnaps (fun vs H Q E h => ?_) (fun cdv A outer s H vs Q E hr h => ?_)
  · obtain ⟨p, rs, n, rfl, _⟩ := h
    rfl
  · obtain ⟨p, rs, n, rfl, hra, q⟩ := h
    refine ⟨_, (pss_one (ps_ret (pe_callB cr_sortedI (by rfl) B.sorted (by decide +kernel) (pa_cons (pe_dget2 (hu_of hr) (pe_fld (pv 0) rfl) (pv 1) (pe_lst pa_nil) ⟨rfl, rfl, rfl, rfl⟩) pa_nil)))), ?_⟩
    obtain ⟨dx, ol, ts, bt, bg, sn, kvs, bks, sks, hp, hbt, hol, hrec, hbg, hbv, hsn, hsd⟩ := id hra
    refine ⟨_, rfl, p, C, _, _, _, rfl, hp, T.cl, T.k_sn, rf_sn, sn, rfl, .inl ⟨sks, .inl hsn⟩, _, rfl, by show 0 ≤ sizeLine; decide, fun z hz => ?_⟩
    have s1 := same_new (o := .lst []) hz
    have hz1 : (upd H z (.lst [])) z = some (.lst []) := upd_same
    generalize upd H z (.lst []) = H1 at s1 hz1
    have g1 : DGet H1 sn (.int n) (valV sks (.inl n)) := .inl ⟨sks, .inl n, .inl (s1 _ _ hsn), rfl, rfl⟩
    refine ⟨_, g1, ?_⟩
    by_cases c : begO rs n = none
    · rw [hsd.no n c]
      refine nil_ ⟨z, [], rfl, SqL.of hz1, fun zs' l hpm hsr hl => ?_⟩
      have e := List.Perm.eq_nil hpm
      subst e
      exact q l [] _ (s1.trans (same_new hl)) upd_same (fun m => ⟨(fun h => nomatch h), fun h => absurd h (snap_none c)⟩) (Nat.zero_le _) .nil List.nodup_nil
    · obtain ⟨l0, zs, a1, a2, a3, a4, a5⟩ := hsd.yes n c
      rw [a1]
      refine nil_ ⟨l0, zs, rfl, SqL.of (s1 _ _ a2), fun zs' l hpm hsr hl => ?_⟩
      exact q l zs' _ (s1.trans (same_new hl)) upd_same (fun m => by rw [hpm.mem_iff]; exact a4 m) (by rw [hpm.length_eq]; exact a3) hsr (hpm.nodup_iff.mpr a5)
theorem scBegins : FnScope ["self", "namespace"] ["self", "namespace"] (defScope (cR 5)) := ⟨rfl, rfl, rfl, by decide +kernel, rfl, by decide +kernel, by decide +kernel⟩
theorem ok_begins (F : Fun K "begins" "Rows.begins" (cR 5) f fd) (T : CT K mg C) : FnOk P wd K mg base CX0 1 f fd ["self", "namespace"] (spBegins K C) := by
  refine F.ok scBegins (fun vs H Q E h => ?_) (fun cdv A outer s H vs Q E hr h => ?_)
  · obtain ⟨p, rs, n, o, rfl, _⟩ := h
    rfl
  · obtain ⟨p, rs, n, o, rfl, hra, hb, q⟩ := h
    refine ⟨_, (pss_one (ps_ret (pe_dget (hu_of hr) (pe_fld (pv 0) rfl) (pv 1) (fun _ _ => rfl)))), ?_⟩
    obtain ⟨dx, ol, ts, bt, bg, sn, kvs, bks, sks, hp, hbt, hol, hrec, hbg, hbv, hsn, hsd⟩ := id hra
    have e : valV bks (.inl n) = some (.int o) := by rw [hbv, hb]; rfl
    exact ⟨_, rfl, p, C, _, _, _, rfl, hp, T.cl, T.k_be, rf_bg, _, rfl, bg, _, rfl, .inl ⟨bks, .inl n, .inl hbg, rfl, e.symm⟩, q⟩
theorem scExists : FnScope ["self", "topic", "row"] ["self", "topic"] (defScope (cR 7)) := ⟨rfl, rfl, rfl, by decide +kernel, rfl, by decide +kernel, by decide +kernel⟩
theorem ok_exists (F : Fun K "_snapshot_exists" "Rows._snapshot_exists" (cR 7) f fd) (T : CT K mg C) (ML : Mth P wd K mg base CX0 C "last_shown" 2 ["self", "topic", "number"] (spLastShown K C) fL fdL) : FnOk P wd K mg base CX0 3 f fd ["self", "topic"] (spExists K C) := by
  refine F.ok scExists (fun vs H Q E h => ?_) (fun cdv A outer s H vs Q E hr h => ?_)
  · obtain ⟨p, tt, rs, k, rfl, _⟩ := h
    rfl
  · obtain ⟨p, tt, rs, k, rfl, hro, hk, hf, hn, q⟩ := h
    refine ⟨_, (pss_cons (ps_set (i := 2) scExists.nd rfl (Or.inl rfl) (pe_meth (pv 0) T.cl ML.me ML.ok hr ML.bd .nil pass0 (pa_cons (pv 1) (pa_cons (pe_fld (pv 0) rfl) pa_nil))))
      (pss_one (ps_ret (pe_and (pe_cmpR op_notN (pv 2) pe_non (nomark _)) (pe_one (pe_cmpR op_notN (pe_ix ix_tup (pv 2) pe_int (fun _ _ => rfl)) pe_non (nomark _))))))), ?_⟩
    obtain ⟨dx, ol, bt, bg, sn, kvs, hp, hbt⟩ := id hro
    refine ⟨_, rfl, p, _, _, rfl, hp, rf_no (by decide) (by decide) (by decide) (by decide) (by decide), _, rfl, _, rfl, p, C, _, _, _, rfl, hp, T.cl, T.k_pr, rf_pr, p, tt, rs, k, presentO rs, rfl, hro, hk, hf, hn, fun v H1 s1 hs => ?_⟩
    have e : shownB rs k = match lastShown rs k (presentO rs) with
      | none => false
      | some x => !noneQ x.2 := rfl
    cases hls : lastShown rs k (presentO rs) with
    | none =>
      rw [hls] at e hs
      obtain rfl : v = .non := hs
      have z := q H1 s1
      rw [e] at z
      exact ⟨_, rfl, rfl, _, rfl, iteF z⟩
    | some x =>
      rw [hls] at e hs
      obtain ⟨pr, rfl, v1, a1, a2⟩ := hs
      have z := q H1 s1
      rw [e] at z
      refine ⟨_, rfl, rfl, _, rfl, iteT ⟨_, rfl, pr, _, _, _, rfl, rfl, SqT.of a1, atI_nat (j := 1) rfl, rfl, ?_⟩⟩
      rw [dp_noneQ a2]
      exact z
end
end Sg

set_option Elab.async false
set_option linter.all false
set_option maxRecDepth 100000
set_option maxHeartbeats 4000000
namespace Sg
open PySem PySem.Spec PyProof.Rows L2
/-! ### the table of rows while it grows -/
abbrev RF := List Key → List Rw
structure TB (K : PySem.W.Frag) (H : Hp) (X : List Addr) (bt : Addr) (ρ : RF) (kvs : TKV) (H' : Hp) : Prop where
  d : H' bt = some (.dT kvs)
  nd : (kvs.map (·.1)).Nodup
  at_ : ∀ k, (∃ l ps, valV kvs k = some (.ref l) ∧ H' l = some (.lst (ps.map V.ref)) ∧ Paired (RowAt K H') ps (ρ k)) ∨ (valV kvs k = none ∧ ρ k = [])
  own : ∀ k l, valV kvs k = some (.ref l) → H l = Option.none ∧ l ∉ X
  inj : ∀ k k' l, valV kvs k = some (.ref l) → valV kvs k' = some (.ref l) → k = k'
  t : ∀ k, ∀ x ∈ ρ k, tupO x.2 = true
section
variable {K : PySem.W.Frag} {H H' H'' : Hp} {X : List Addr} {bt : Addr} {ρ : RF} {kvs : TKV}
theorem TB.same (h : TB K H X bt ρ kvs H') (s : Same H' H'') : TB K H X bt ρ kvs H'' :=
  ⟨s _ _ h.d, h.nd, fun k => by
    rcases h.at_ k with ⟨l, ps, a, b, c⟩ | z
    · exact .inl ⟨l, ps, a, s _ _ b, paired_rsame s c⟩
    · exact .inr z, h.own, h.inj, h.t⟩
theorem TB.set {X' : List Addr} (h : TB K H X bt ρ kvs H') (g : ∀ k l, valV kvs k = some (.ref l) → l ∉ X') : TB K H X' bt ρ kvs H' :=
  ⟨h.d, h.nd, h.at_, fun k l e => ⟨(h.own k l e).1, g k l e⟩, h.inj, h.t⟩
theorem TB.lst (h : TB K H X bt ρ kvs H') {k : List Key} {l : Addr} (e : valV kvs k = some (.ref l)) : ∃ ps : List Addr, H' l = some (.lst (ps.map V.ref)) ∧ Paired (RowAt K H') ps (ρ k) := by
  rcases h.at_ k with ⟨l', ps, a, b, c⟩ | ⟨a, _⟩
  · rw [e] at a; cases a; exact ⟨ps, b, c⟩
  · rw [e] at a; cases a
/-- something is written that is no row's list and no tuple -/
theorem TB.upd (h : TB K H X bt ρ kvs H') (tk : TK H' H'') (k1 : H'' bt = some (.dT kvs)) (k2 : ∀ k l u, valV kvs k = some (.ref l) → H' l = some u → H'' l = some u) : TB K H X bt ρ kvs H'' :=
  ⟨k1, h.nd, fun k => by
    rcases h.at_ k with ⟨l, ps, a, b, c⟩ | z
    · exact .inl ⟨l, ps, a, k2 k l _ a b, paired_tk tk (h.t k) c⟩
    · exact .inr z, h.own, h.inj, h.t⟩
theorem tk_dT {a : Addr} {kvs kvs' : TKV} (h : H' a = some (.dT kvs)) : TK H' (upd H' a (.dT kvs')) :=
  ⟨fun b xs e => by rw [upd_ne (ne_of e h (fun z => nomatch z))]; exact e, fun b o xs e => by rw [upd_ne (ne_of e h (fun z => nomatch z))]; exact e⟩
theorem tk_lst {a : Addr} {xs xs' : List V} (h : H' a = some (.lst xs)) : TK H' (upd H' a (.lst xs')) :=
  ⟨fun b xs e => by rw [upd_ne (ne_of e h (fun z => nomatch z))]; exact e, fun b o xs e => by rw [upd_ne (ne_of e h (fun z => nomatch z))]; exact e⟩
theorem TB.setd (h : TB K H X bt ρ kvs H') {z : Addr} {k : List Key} (hz : H' z = Option.none) (hz0 : H z = Option.none) (hzX : z ∉ X) (hk : valV kvs k = none) :
    TB K H X bt ρ (putK kvs k (.ref z)) (L2.upd (L2.upd H' z (.lst [])) bt (.dT (putK kvs k (.ref z)))) ∧ TK H' (L2.upd (L2.upd H' z (.lst [])) bt (.dT (putK kvs k (.ref z)))) := by
  have s1 := same_new (o := .lst []) hz
  have hzb : z ≠ bt := fun e => by rw [e, h.d] at hz; cases hz
  have hbt1 := s1 _ _ h.d
  have tk : TK H' (L2.upd (L2.upd H' z (.lst [])) bt (.dT (putK kvs k (.ref z)))) := (TK.of s1).trans (tk_dT hbt1)
  refine ⟨⟨upd_same, nd_putK _ h.nd hk, fun j => ?_, fun j l e => ?_, fun j j' l e e' => ?_, h.t⟩, tk⟩
  · rw [valV_put]
    by_cases c : j = k
    · rw [if_pos c]
      refine .inl ⟨z, [], rfl, by rw [upd_ne hzb, upd_same]; rfl, ?_⟩
      rcases h.at_ j with ⟨l, ps, a, _⟩ | ⟨_, e⟩
      · rw [c, hk] at a; cases a
      · rw [e]; exact .nil
    · rw [if_neg c]
      rcases h.at_ j with ⟨l, ps, a, b, d⟩ | e
      · refine .inl ⟨l, ps, a, ?_, paired_tk tk (h.t j) d⟩
        rw [upd_ne (ne_of b h.d (fun z => nomatch z))]
        exact s1 _ _ b
      · exact .inr e
  · rw [valV_put] at e
    by_cases c : j = k
    · rw [if_pos c] at e; cases e; exact ⟨hz0, hzX⟩
    · rw [if_neg c] at e; exact h.own j l e
  · rw [valV_put] at e e'
    have nz : ∀ j, valV kvs j ≠ some (.ref z) := fun j e => by
      obtain ⟨ps, a, _⟩ := h.lst e
      rw [a] at hz; cases hz
    by_cases c : j = k <;> by_cases c' : j' = k
    · rw [c, c']
    · rw [if_pos c] at e; rw [if_neg c'] at e'
      cases e; exact absurd e' (nz j')
    · rw [if_neg c] at e; rw [if_pos c'] at e'
      cases e'; exact absurd e (nz j)
    · rw [if_neg c] at e; rw [if_neg c'] at e'
      exact h.inj j j' l e e'
def addR (ρ : RF) (k : List Key) (x : Rw) : RF := fun j => if j = k then ρ j ++ [x] else ρ j
theorem TB.app (h : TB K H X bt ρ kvs H') {k : List Key} {l p : Addr} {ps : List Addr} {o : Int} {v : V} {d : PyData} (hv : valV kvs k = some (.ref l)) (hl : H' l = some (.lst (ps.map V.ref))) (hr : Paired (RowAt K H') ps (ρ k)) (hp : H' p = Option.none) (hd : Dp K H' v d) (ht : tupO d = true) :
    TB K H X bt (addR ρ k (o, d)) kvs (L2.upd (L2.upd H' p (.tup [.int o, v])) l (.lst (ps.map V.ref ++ [.ref p]))) ∧ TK H' (L2.upd (L2.upd H' p (.tup [.int o, v])) l (.lst (ps.map V.ref ++ [.ref p]))) ∧ ∀ b u, H' b = some u → b ≠ l → (L2.upd (L2.upd H' p (.tup [.int o, v])) l (.lst (ps.map V.ref ++ [.ref p]))) b = some u := by
  have s1 := same_new (o := .tup [.int o, v]) hp
  have npl : p ≠ l := fun e => by rw [e, hl] at hp; cases hp
  have tk : TK H' (L2.upd (L2.upd H' p (.tup [.int o, v])) l (.lst (ps.map V.ref ++ [.ref p]))) := (TK.of s1).trans (tk_lst (s1 _ _ hl))
  have keep : ∀ b u, H' b = some u → b ≠ l → (L2.upd (L2.upd H' p (.tup [.int o, v])) l (.lst (ps.map V.ref ++ [.ref p]))) b = some u := fun b u e n => by rw [upd_ne n]; exact s1 _ _ e
  refine ⟨⟨keep _ _ h.d (fun e => by rw [← e, h.d] at hl; cases hl), h.nd, fun j => ?_, h.own, h.inj, fun j x hx => ?_⟩, tk, keep⟩
  · unfold addR
    by_cases c : j = k
    · subst c
      rw [if_pos rfl]
      refine .inl ⟨l, ps ++ [p], hv, by rw [upd_same, List.map_append]; rfl, paired_append (paired_tk tk (h.t j) hr) (.cons ⟨v, ?_, dp_tk tk _ _ ht hd⟩ .nil)⟩
      rw [upd_ne npl, upd_same]
    · rw [if_neg c]
      rcases h.at_ j with ⟨l', ps', a, b, e⟩ | e
      · exact .inl ⟨l', ps', a, keep _ _ b (fun z => c (h.inj j k l (by rw [← z]; exact a) hv)), paired_tk tk (h.t j) e⟩
      · exact .inr e
  · unfold addR at hx
    split at hx
    · rcases List.mem_append.mp hx with hx | hx
      · exact h.t j x hx
      · rw [List.mem_singleton.mp hx]; exact ht
    · exact h.t j x hx
end
/-! ### where a namespace begins -/
def memberE (es : List Ef) (n : Int) : Bool := es.any fun e => decide (spaceK e.1 = n) && !strIn (word e.1) ["host", "told"]
theorem effB_w {o h : Int} {b : Bd} : ∀ e ∈ effB o h b, word e.1 ≠ "host" := by
  have wn : ∀ {w : Str} {r : List Key}, ¬ w = "host" → ¬ word (.inr w :: r) = "host" := fun h => h
  intro e he
  cases b with
  | leave n hb => cases hb <;> simp only [effB, List.mem_cons, List.not_mem_nil, or_false] at he <;> (try rcases he with rfl | rfl) <;> (try subst he) <;> exact wn (by decide)
  | preempt n v w => cases w <;> simp only [effB, List.mem_cons, List.not_mem_nil, or_false] at he <;> (try rcases he with rfl | rfl) <;> (try subst he) <;> exact wn (by decide)
  | _ => simp only [effB, List.mem_cons, List.not_mem_nil, or_false] at he; subst he; exact wn (by decide)
theorem strIn_two {w a b : Str} : strIn w [a, b] = (decide (a = w) || decide (b = w)) := by
  unfold strIn
  rw [List.any_cons, List.any_cons, List.any_nil, Bool.or_false]
theorem memberE_R {r : Rc} {n : Int} : memberE (effR r) n = memberR r n := by
  unfold memberE memberR effR
  rw [List.any_cons]
  have e1 : (decide (spaceK (effH r).1 = n) && !strIn (word (effH r).1) ["host", "told"]) = false := by
    have : strIn (word (effH r).1) ["host", "told"] = true := by
      show strIn "host" ["host", "told"] = true
      decide
    rw [this]; simp
  rw [e1, Bool.false_or]
  have : ∀ es : List Ef, (∀ e ∈ es, word e.1 ≠ "host") → (es.any fun e => decide (spaceK e.1 = n) && !strIn (word e.1) ["host", "told"]) = es.any fun e => decide (spaceK e.1 = n) && decide (word e.1 ≠ "told") := by
    intro es
    induction es with
    | nil => intro _; rfl
    | cons e es ih =>
      intro h
      rw [List.any_cons, List.any_cons, ih fun x hx => h x (List.mem_cons_of_mem _ hx)]
      have hh := h e List.mem_cons_self
      have e2 : decide (("host" : Str) = word e.1) = false := decide_eq_false (fun z => hh z.symm)
      rw [strIn_two, e2, Bool.false_or]
      congr 2
      by_cases c : word e.1 = "told"
      · rw [decide_eq_true c.symm, decide_eq_false (fun z => z c)]; rfl
      · rw [decide_eq_false (fun z => c z.symm), decide_eq_true c]; rfl
  exact this _ effB_w
theorem begO_snoc {rs : List Rc} {r : Rc} {n : Int} : begO (rs ++ [r]) n = (begO rs n).or (if memberR r n = true then some r.o else none) := by
  unfold begO
  rw [List.find?_append]
  cases h : rs.find? (fun r => memberR r n) with
  | some x => rfl
  | none =>
    rw [Option.none_or, List.find?_cons]
    cases c : memberR r n with
    | true => rfl
    | false => rfl
end Sg

set_option Elab.async false
set_option linter.all false
set_option maxRecDepth 100000
set_option maxHeartbeats 4000000
namespace Sg
open PySem PySem.Spec PyProof.Rows L2
/-! ### the rows are made -/
theorem putF_new {f : Str} {v : V} : ∀ {fs : List (Str × V)}, (∀ p ∈ fs, ¬ p.1 = f) → putF f v fs = fs ++ [(f, v)]
  | [], _ => rfl
  | (g, x) :: fs, h => by
    rw [put_past (h (g, x) List.mem_cons_self), putF_new fun p hp => h p (List.mem_cons_of_mem _ hp)]; rfl
theorem tk_ins {H H' : Hp} {p C dx : Addr} {fs : List (Str × V)} (o : Off [p] H H') (h : H p = some (.ins C dx fs)) : TK H H' :=
  ⟨fun a xs e => o _ _ e (by simpa using ne_of e h (by intro z; cases z)), fun a b xs e => o _ _ e (by simpa using ne_of e h (by intro z; cases z))⟩
theorem tk_dK {H : Hp} {a : Addr} {kvs kvs' : List (Key × V)} (h : H a = some (.dK kvs)) : TK H (upd H a (.dK kvs')) :=
  ⟨fun b xs e => by rw [upd_ne (ne_of e h (fun z => nomatch z))]; exact e, fun b o xs e => by rw [upd_ne (ne_of e h (fun z => nomatch z))]; exact e⟩
def f4 (ol : Addr) (pr : Int) (bt bg : Addr) : List (Str × V) := [("ordered", .ref ol), ("present", .int pr), ("_by_topic", .ref bt), ("_begins", .ref bg)]
theorem f4_or {ol bt bg : Addr} {pr : Int} : List.lookup ("ordered" : Str) (f4 ol pr bt bg) = some (V.ref ol) := lk_here
theorem f4_bt {ol bt bg : Addr} {pr : Int} : List.lookup ("_by_topic" : Str) (f4 ol pr bt bg) = some (V.ref bt) := (lk_past (by decide)).trans ((lk_past (by decide)).trans lk_here)
theorem f4_bg {ol bt bg : Addr} {pr : Int} : List.lookup ("_begins" : Str) (f4 ol pr bt bg) = some (V.ref bg) := (lk_past (by decide)).trans ((lk_past (by decide)).trans ((lk_past (by decide)).trans lk_here))
/-- the heap while the table grows -/
structure LS (K : PySem.W.Frag) (H : Hp) (C p dx ol bt bg : Addr) (ts : List Addr) (rs : List Rc) (X : List Addr) (ρ : RF) (kvs : TKV) (β : Int → Option Int) (bks : List (Key × V)) (H' : Hp) : Prop where
  o : Off [p] H H'
  p : H' p = some (.ins C dx (f4 ol (presentO rs) bt bg))
  l : H' ol = some (.lst (ts.map V.ref))
  pr : Paired (RecAt K H') ts rs
  tb : TB K H X bt ρ kvs H'
  g : H' bg = some (.dK bks)
  gv : ∀ n : Int, valV bks (.inl n) = (β n).map V.int
  gk : ∀ q ∈ bks, ∃ n : Int, q.1 = .inl n
theorem LS.same {K : PySem.W.Frag} {H H' H'' : Hp} {C p dx ol bt bg : Addr} {ts : List Addr} {rs : List Rc} {X : List Addr} {ρ : RF} {kvs : TKV} {β : Int → Option Int} {bks : List (Key × V)} (h : LS K H C p dx ol bt bg ts rs X ρ kvs β bks H') (s : Same H' H'') : LS K H C p dx ol bt bg ts rs X ρ kvs β bks H'' :=
  ⟨h.o.trans (Off.of s), s _ _ h.p, s _ _ h.l, Paired.imp2 (fun _ _ z => z.same s) h.pr, h.tb.same s, s _ _ h.g, h.gv, h.gk⟩
/-- one thing is written: the dict of the rows, or a row's list -/
theorem LS.chg {K : PySem.W.Frag} {H H' H'' : Hp} {C p dx ol bt bg : Addr} {ts : List Addr} {rs : List Rc} {X : List Addr} {ρ ρ' : RF} {kvs kvs' : TKV} {β : Int → Option Int} {bks : List (Key × V)} (h : LS K H C p dx ol bt bg ts rs X ρ kvs β bks H') (hg : ∀ r ∈ rs, RGood r) (tb : TB K H X bt ρ' kvs' H'') (tk : TK H' H'') {Y : Addr} (hY : H Y = Option.none)
    (keep : ∀ b u, H' b = some u → b ≠ Y → H'' b = some u) (n1 : p ≠ Y) (n2 : ol ≠ Y) (n3 : bg ≠ Y) : LS K H C p dx ol bt bg ts rs X ρ' kvs' β bks H'' :=
  ⟨fun b u e n => keep _ _ (h.o _ _ e n) (ne_of_none e hY), keep _ _ h.p n1, keep _ _ h.l n2, paired_rtk tk hg h.pr, tb, keep _ _ h.g n3, h.gv, h.gk⟩
theorem LS.beg {K : PySem.W.Frag} {H H' : Hp} {C p dx ol bt bg : Addr} {ts : List Addr} {rs : List Rc} {X : List Addr} {ρ : RF} {kvs : TKV} {β β' : Int → Option Int} {bks : List (Key × V)} (h : LS K H C p dx ol bt bg ts rs X ρ kvs β bks H') (hg : ∀ r ∈ rs, RGood r) (hbg : H bg = Option.none) {n : Int} {o : Int}
    (hb : ∀ j, β' j = if j = n then some o else β j) : LS K H C p dx ol bt bg ts rs X ρ kvs β' (putK bks (.inl n) (.int o)) (upd H' bg (.dK (putK bks (.inl n) (.int o)))) := by
  have tk := tk_dK (kvs' := putK bks (.inl n) (.int o)) h.g
  have keep : ∀ b u, H' b = some u → b ≠ bg → (upd H' bg (.dK (putK bks (.inl n) (.int o)))) b = some u := fun b u e n => by rw [upd_ne n]; exact e
  refine ⟨fun b u e n => keep _ _ (h.o _ _ e n) (ne_of_none e hbg), keep _ _ h.p (ne_of h.p h.g (fun z => nomatch z)), keep _ _ h.l (ne_of h.l h.g (fun z => nomatch z)), paired_rtk tk hg h.pr, h.tb.upd tk (keep _ _ h.tb.d (ne_of h.tb.d h.g (fun z => nomatch z))) (fun k l u e e' => ?_), upd_same, fun j => ?_, fun q hq => ?_⟩
  · obtain ⟨ps, a, _⟩ := h.tb.lst e
    exact keep _ _ e' (ne_of a h.g (fun z => nomatch z))
  · rw [valV_put, h.gv, hb]
    by_cases c : j = n
    · rw [if_pos c, if_pos (by rw [c])]; rfl
    · rw [if_neg c, if_neg (fun z => c (Sum.inl.inj z))]
  · unfold putK at hq
    split at hq
    · obtain ⟨q0, hq0, e⟩ := List.mem_map.mp hq
      obtain ⟨j, hj⟩ := h.gk q0 hq0
      split at e
      · rw [← e]; exact ⟨j, hj⟩
      · rw [← e]; exact ⟨j, hj⟩
    · rcases List.mem_append.mp hq with z | z
      · exact h.gk q z
      · rw [List.mem_singleton.mp z]; exact ⟨n, rfl⟩
theorem rows_not_effs {K : PySem.W.Frag} {H : Hp} {ps es : List Addr} {xs : List Rw} {efs : List Ef} (hx : xs ≠ []) (a : Paired (RowAt K H) ps xs) (b : Paired (EffAt K H) es efs) (e : ps.map V.ref = es.map V.ref) : False := by
  cases a with
  | nil => exact hx rfl
  | @cons p x ps xs a1 a2 =>
    cases b with
    | nil => cases e
    | @cons q y es efs b1 b2 =>
      rw [List.map_cons, List.map_cons] at e
      injection e with e1 e2
      cases e1
      obtain ⟨v, c1, _⟩ := a1
      obtain ⟨t, v', c2, _⟩ := b1
      rw [c1] at c2; cases c2
theorem rowsE_take {o : Int} {es : List Ef} {m : Nat} {e : Ef} (h : es[m]? = some e) {k : List Key} : rowsE o k (es.take (m + 1)) = rowsE o k (es.take m) ++ (if e.1 = k then [(o, e.2)] else []) := by
  rw [List.take_add_one, h]
  show rowsE o k (es.take m ++ [e]) = _
  rw [← rowsE_one]
  unfold rowsE
  rw [List.filterMap_append]
theorem memberE_take {es : List Ef} {m : Nat} {e : Ef} (h : es[m]? = some e) {n : Int} : memberE (es.take (m + 1)) n = (memberE (es.take m) n || (decide (spaceK e.1 = n) && !strIn (word e.1) ["host", "told"])) := by
  unfold memberE
  rw [List.take_add_one, h, List.any_append]
  show _ = (_ || _)
  rw [Option.toList_some, List.any_cons, List.any_nil, Bool.or_false]
def ρAt (rs : List Rc) (r : Rc) (m : Nat) : RF := fun k => rowsF rs k ++ rowsE r.o k ((effR r).take m)
def βAt (rs : List Rc) (r : Rc) (m : Nat) : Int → Option Int := fun n => (begO rs n).or (if memberE ((effR r).take m) n = true then some r.o else none)
theorem ρAt_zero {rs : List Rc} {r : Rc} : ρAt rs r 0 = rowsF rs := by
  funext k
  unfold ρAt
  rw [List.take_zero]
  show _ ++ [] = _
  rw [List.append_nil]
theorem βAt_zero {rs : List Rc} {r : Rc} : βAt rs r 0 = begO rs := by
  funext n
  unfold βAt
  rw [List.take_zero]
  show (begO rs n).or (if memberE [] n = true then some r.o else none) = _
  rw [show memberE [] n = false from rfl, if_neg (by decide), Option.or_none]
theorem ρAt_succ {rs : List Rc} {r : Rc} {m : Nat} {e : Ef} (h : (effR r)[m]? = some e) : addR (ρAt rs r m) e.1 (r.o, e.2) = ρAt rs r (m + 1) := by
  funext k
  unfold addR ρAt
  rw [rowsE_take h, ← List.append_assoc]
  by_cases c : k = e.1
  · rw [if_pos c, if_pos c.symm]
  · rw [if_neg c, if_neg (fun z => c z.symm), List.append_nil]
theorem ρAt_end {rs : List Rc} {r : Rc} {m : Nat} (h : (effR r).length ≤ m) : ρAt rs r m = rowsF (rs ++ [r]) := by
  funext k
  unfold ρAt
  rw [rowsF_snoc, List.take_of_length_le h]
theorem βAt_end {rs : List Rc} {r : Rc} {m : Nat} (h : (effR r).length ≤ m) : βAt rs r m = begO (rs ++ [r]) := by
  funext n
  unfold βAt
  rw [begO_snoc, List.take_of_length_le h, memberE_R]
theorem βAt_no {rs : List Rc} {r : Rc} {m : Nat} {e : Ef} (h : (effR r)[m]? = some e) (hw : strIn (word e.1) ["host", "told"] = true) : βAt rs r (m + 1) = βAt rs r m := by
  funext n
  unfold βAt
  rw [memberE_take h, hw]
  simp
theorem βAt_yes {rs : List Rc} {r : Rc} {m : Nat} {e : Ef} (h : (effR r)[m]? = some e) (hw : strIn (word e.1) ["host", "told"] = false) (n : Int) : βAt rs r (m + 1) n = if n = spaceK e.1 then (βAt rs r m n).or (some r.o) else βAt rs r m n := by
  unfold βAt
  rw [memberE_take h, hw]
  by_cases c : n = spaceK e.1
  · rw [if_pos c, decide_eq_true c.symm]
    cases begO rs n with
    | some x => rfl
    | none =>
      rw [Option.none_or, Option.none_or]
      cases memberE ((effR r).take m) n <;> rfl
  · rw [if_neg c, decide_eq_false (fun z => c z.symm)]
    simp
theorem tk_off2 {H H' : Hp} {p bt C dx : Addr} {fs : List (Str × V)} {kvs : TKV} (o : Off [p, bt] H H') (hp : H p = some (.ins C dx fs)) (hb : H bt = some (.dT kvs)) : TK H H' := by
  refine ⟨fun a xs e => o _ _ e fun m => ?_, fun a b xs e => o _ _ e fun m => ?_⟩ <;>
  · rcases List.mem_cons.mp m with rfl | m
    · rw [hp] at e; cases e
    · rw [List.mem_singleton.mp m, hb] at e; cases e
theorem BT.off {K : PySem.W.Frag} {H H' : Hp} {p bt C dx : Addr} {fs : List (Str × V)} {rs : List Rc} {kvs : TKV} (h : BT K H bt rs kvs) (o : Off [p, bt] H H') (hp : H p = some (.ins C dx fs)) (hb : H bt = some (.dT kvs)) (d : Rd H' bt (.dT kvs)) (hg : ∀ r ∈ rs, RGood r) : BT K H' bt rs kvs := by
  have tk := tk_off2 o hp hb
  refine ⟨d, h.nd, fun k hk => ?_, h.no, h.ln⟩
  obtain ⟨l, ps, a, b, c⟩ := h.yes k hk
  refine ⟨l, ps, a, o _ _ b fun m => ?_, paired_tk tk (fun x hx => ?_) c⟩
  · rcases List.mem_cons.mp m with rfl | m
    · rw [hp] at b; cases b
    · rw [List.mem_singleton.mp m, hb] at b; cases b
  · obtain ⟨l0, hl0, hx⟩ := List.mem_flatten.mp hx
    obtain ⟨r, hr, rfl⟩ := List.mem_map.mp hl0
    exact rowsE_t (effR_t (hg r hr)) x hx
theorem effR_s {r : Rc} : ∀ e ∈ effR r, SForm e.1 := by
  intro e he
  rcases List.mem_cons.mp he with rfl | he
  · exact fun h => absurd h (wne (w := "host") (r := [.inl r.h]) (by decide))
  · exact effB_s e he
def spRInit (K : PySem.W.Frag) (C : Addr) : Sp := fun vs H Q _ => ∃ (p a dx : Addr) (ts : List Addr) (rs : List Rc), vs = [.ref p, .ref a] ∧ H p = some (.ins C dx []) ∧ SqL K H a (ts.map V.ref) ∧ Paired (RecAt K H) ts rs ∧ rs.length ≤ 100 ∧ (∀ r ∈ rs, RGood r) ∧ (∀ x ∈ rs, ∀ y ∈ rs, x.o = y.o → x = y) ∧
  ∀ rs' H', Off [p] H H' → RA K C H' p rs' → rs'.Pairwise (fun x y => x.o < y.o) → (∀ r, r ∈ rs' ↔ r ∈ rs) → rs'.length ≤ 100 → Q .non H'
theorem nodup_lenX {α : Type} [DecidableEq α] : ∀ {l m : List α}, l.Nodup → (∀ x ∈ l, x ∈ m) → l.length ≤ m.length
  | [], _, _, _ => Nat.zero_le _
  | x :: l, m, nd, h => by
    rw [List.nodup_cons] at nd
    have hx := h x List.mem_cons_self
    have := nodup_lenX (l := l) (m := m.erase x) nd.2 fun y hy => (List.mem_erase_of_ne (fun e => nd.1 (by rw [← e]; exact hy))).mpr (h y (List.mem_cons_of_mem _ hy))
    rw [List.length_erase_of_mem hx] at this
    have := List.length_pos_of_mem hx
    rw [List.length_cons]; omega
theorem asc_lenX {rs rs' : List Rc} (asc : rs'.Pairwise (fun x y => x.o < y.o)) (mem : ∀ r, r ∈ rs' ↔ r ∈ rs) : rs'.length ≤ rs.length := by
  have nd : (rs'.map (·.o)).Nodup := by
    unfold List.Nodup
    rw [List.pairwise_map]
    exact asc.imp fun h e => by omega
  have := nodup_lenX (m := rs.map (·.o)) nd fun x hx => by
    obtain ⟨r, hr, e⟩ := List.mem_map.mp hx
    exact List.mem_map.mpr ⟨r, (mem r).mp hr, e⟩
  rw [List.length_map, List.length_map] at this
  exact this
/-- a dict comprehension over a walk -/
theorem dc_it {J : It} {n : Nat} {G : Hp → Prop} {Y : Nat → Hp → V → Hp → Prop} (w : Walk J n G Y) {g : TG} {tt : TT} {tk tv : TE} {vs : List Nat} {σ : L2.St} {H1 : Hp} {D : Addr} {Qd : Hp → Prop} (Pv : Nat → Hp → Prop) (h0 : Pv 0 (upd H1 D (.dK []))) (hG : ∀ i H, i ≤ n → Pv i H → G H)
    (hs : ∀ i x H H', i < n → Pv i H → Y i H x H' → g x (wipe σ vs) H' fun σ2 H2 => wipe σ2 vs = wipe σ vs ∧ tt σ2 H2 fun b H3 =>
      if b = true then tk σ2 H3 fun y H4 => tv σ2 H4 fun z H5 => ∃ kvs k, y = kV k ∧ H5 D = some (.dK kvs) ∧ kvs.length < sizeLine ∧ Pv (i + 1) (upd H5 D (.dK (putK kvs k z))) else Pv (i + 1) H3) (hd : ∀ H, Pv n H → Qd H) :
    ∃ W : Nat → Nat → Hp → Prop, (∃ m, W 0 m (upd H1 D (.dK []))) ∧ ∀ i m H, W i m H →
      (J.stop i H ∧ Qd H) ∨ (J.go i H ∧ ∃ Nx : Hp → Prop, (∀ H', Nx H' → ∃ m', m' < m ∧ W (i + 1) m' H') ∧ ∀ x H', J.yld i H x H' → g x (wipe σ vs) H' fun σ2 H2 => wipe σ2 vs = wipe σ vs ∧ tt σ2 H2 fun b H3 =>
        if b = true then tk σ2 H3 fun y H4 => tv σ2 H4 fun z H5 => ∃ kvs k, y = kV k ∧ H5 D = some (.dK kvs) ∧ kvs.length < sizeLine ∧ Nx (upd H5 D (.dK (putK kvs k z))) else Nx H3) := by
  refine ⟨fun i m H => m = n - i ∧ i ≤ n ∧ Pv i H, ⟨n, by simp, Nat.zero_le _, h0⟩, ?_⟩
  rintro i m H ⟨rfl, hi, p⟩
  have q := hG i H hi p
  by_cases hlt : i < n
  · refine .inr ⟨w.goes i H hlt q, Pv (i + 1), fun H' p' => ⟨n - (i + 1), by omega, rfl, hlt, p'⟩, fun x H' y => hs i x H H' hlt p (w.yields i H x H' hlt q y)⟩
  · have e : i = n := by omega
    subst e
    exact .inl ⟨w.stops H q, hd H p⟩
section
variable {P : Program} {wd : World} {K : PySem.W.Frag} {mg : Str → Option Value} {base : Heap} {f fO fE fX C aHT : Addr} {fd fdO fdE fdX : FuncData}
theorem scInit : FnScope ["self", "records", "record", "topic", "value", "namespace"] ["self", "records"] (defScope (cR 0)) := ⟨rfl, rfl, rfl, by decide +kernel, rfl, by decide +kernel, by decide +kernel⟩
theorem ok_rinit (F : Fun K "__init__" "Rows.__init__" (cR 0) f fd) (T : CT K mg C) (hHT : mg "HOST_TOPICS" = some (.ref aHT)) (tHT : ∀ H, SqT K H aHT [.str "host", .str "told"]) (GO : Def P wd K mg base CX0 "each_once" 1 ["records"] (spOnce K) fO fdO) (GE : Def P wd K mg base CX0 "effects" 2 ["record"] (spEffects K) fE fdE) (ME : Mth P wd K mg base CX0 C "_snapshot_exists" 3 ["self", "topic"] (spExists K C) fX fdX) : FnOk P wd K mg base CX0 4 f fd ["self", "records"] (spRInit K C) := by
  refine F.ok scInit (fun vs H Q E h => ?_) (fun cdv A outer s H vs Q E hr h => ?_)
  · obtain ⟨p, a, dx, ts, rs, rfl, _⟩ := h
    rfl
  · obtain ⟨p, a, dx, ts0, rs0, rfl, hp, ha, hpr, hn, hg0, hu, q⟩ := h
    have hr1 : Room 1 _ := hr.mono (by decide)
    have hr2 : Room 2 _ := hr.mono (by decide)
    refine ⟨_, (pss_cons (ps_fld (pv 0) (pe_call GO.ok hr1 (by rfl) GO.mg GO.kp GO.bd .nil pass0 (pa_cons (pv 1) pa_nil)) rfl)
      (pss_cons (ps_fld (pv 0) (pe_cut (pe_ifExp (pt_truth (pe_fld (pv 0) rfl) (by intro _; rfl)) (pe_op op_add (pe_ix ix_tup (pe_ix ix_list (pe_fld (pv 0) rfl) (pe_un un_neg pe_int) (fun _ _ => rfl)) pe_int (fun _ _ => rfl)) pe_int) pe_int)) rfl)
      (pss_cons (ps_fld (pv 0) pe_dnewT rfl)
      (pss_cons (ps_fld (pv 0) pe_dnewK rfl)
      (pss_cons (ps_for PassesOwn.never rfl (pi_list (pe_fld (pv 0) rfl)) (pg_name (i := 2) scInit.nd rfl (Or.inl rfl))
      (pss_one (ps_for PassesOwn.never rfl (pi_list (pe_call GE.ok hr2 (by rfl) GE.mg GE.kp GE.bd .nil pass0 (pa_cons (pv 2) pa_nil))) (pg_tup (by rfl) (pgs_cons (pg_name (i := 3) scInit.nd rfl (Or.inl rfl)) (pgs_cons (pg_name (i := 4) scInit.nd rfl (Or.inl rfl)) L2.pgs_nil)))
      (pss_cons (ps_expr (pe_bm PySem.F.plainAttrs_list PySem.F.slot_list_append PySem.F.type_list_append mt_append (pe_cut (pe_dsetdT (hu_of hr) (pe_fld (pv 0) rfl) (pv 3) (pe_lst pa_nil) ⟨rfl, rfl, rfl, rfl⟩)) (pa_cons (pe_tup (pa_cons (pe_ix ix_tup (pv 2) pe_int (fun _ _ => rfl)) (pa_cons (pv 4) pa_nil))) pa_nil)))
      (pss_one (ps_if (pt_cmpR op_notIn_seq (pe_ix ix_tup (pv 3) pe_int (fun _ _ => rfl)) (pe_glob (v := .ref aHT) (by rfl) hHT rfl) (by rfl))
      (pss_one (ps_expr (pe_dsetd (pe_fld (pv 0) rfl) (pe_ix ix_tup (pv 3) pe_int (fun _ _ => rfl)) (pe_ix ix_tup (pv 2) pe_int (fun _ _ => rfl)) ⟨rfl, rfl, rfl, rfl⟩))) pss_nil))))))
      (pss_cons (ps_fld (pv 0) (pe_lock (pe_dc (own := [("namespace", 5)]) (g := gName 5) (tt := tYes) (tk := tVar 5) (tv := tLst tNil) (by rfl) scInit.nd (pi_keys (pe_fld (pv 0) rfl)) (blkOk_by (own := [("namespace", 5)]) (N := ["self", "records", "record", "topic", "value", "namespace"]) (sc := defScope (cR 0)) (by decide +kernel)) (fun _ _ _ _ _ => pg_name (i := 5) scInit.nd rfl (Or.inl rfl)) (fun _ _ _ _ _ => pts_nil) (fun _ _ _ _ _ => by exact (pv 5)) (fun _ _ _ _ _ => by exact (pe_lst pa_nil)))) rfl)
      (pss_one (ps_lock (ps_for PassesOwn.never rfl (pi_keys (pe_fld (pv 0) rfl)) (pg_name (i := 3) scInit.nd rfl (Or.inl rfl))
      (pss_one (ps_if (PW.pt (pw_and (pt_cmpR op_eq (pe_ix ix_tup (pv 3) pe_int (fun _ _ => rfl)) pe_str (nomark _)) (pw_and1 (pt_val (pe_meth (pv 0) T.cl ME.me ME.ok hr ME.bd .nil pass0 (pa_cons (pv 3) pa_nil))))))
      (pss_one (ps_expr (pe_bm PySem.F.plainAttrs_list PySem.F.slot_list_append PySem.F.type_list_append mt_append (pe_dget (hu_of hr) (pe_fld (pv 0) rfl) (pe_ix ix_tup (pv 3) pe_int (fun _ _ => rfl)) (fun _ _ => rfl)) (pa_cons (pe_ix ix_tup (pv 3) pe_int (fun _ _ => rfl)) pa_nil)))) pss_nil))))))))))), ?_⟩
    refine ⟨_, rfl, a, ts0, rs0, rfl, ha, hpr, by omega, hg0, hu, fun ol ts rs H1 s1 hol hol1 pr1 asc mem => ?_⟩
    have hlen := pr1.length
    have rl : rs.length ≤ 100 := Nat.le_trans (asc_lenX asc mem) hn
    have hg : ∀ r ∈ rs, RGood r := fun r hr' => hg0 r ((mem r).mp hr')
    have nolp : ol ≠ p := fun e => by rw [e, hp] at hol; cases hol
    refine ⟨_, rfl, p, C, dx, [], rfl, s1 _ _ hp, T.cl, T.k_or, by decide, ?_⟩
    have o2 : Off [p] H (upd H1 p (.ins C dx (putF "ordered" (.ref ol) []))) := (Off.of s1).trans (Off.upd (by simp))
    have hp2 : (upd H1 p (.ins C dx (putF "ordered" (.ref ol) []))) p = some (.ins C dx [("ordered", .ref ol)]) := upd_same
    have hol2 : (upd H1 p (.ins C dx (putF "ordered" (.ref ol) []))) ol = some (.lst (ts.map V.ref)) := by rw [upd_ne nolp]; exact hol1
    have pr2 : Paired (RecAt K (upd H1 p (.ins C dx (putF "ordered" (.ref ol) [])))) ts rs := paired_rtk (tk_ins (Off.upd (by simp)) (s1 _ _ hp)) hg pr1
    generalize upd H1 p (.ins C dx (putF "ordered" (.ref ol) [])) = H2 at o2 hp2 hol2 pr2
    refine ⟨fun v H' => v = .int (presentO rs) ∧ H' = H2, ?_, ?_⟩
    · rcases List.eq_nil_or_concat rs with e | ⟨xs, r, e⟩
      · subst e
        cases pr2
        exact ⟨_, rfl, p, C, dx, _, _, rfl, hp2, T.cl, T.k_or, lk_here, false, .inl ⟨[], SqL.of hol2, rfl⟩, iteF ⟨rfl, rfl⟩⟩
      · rw [List.concat_eq_append] at e
        subst e
        obtain ⟨qs, t, et, ht⟩ : ∃ qs t, ts = qs ++ [t] ∧ RecAt K H2 t r := by
          have : ∀ {xs : List Rc} {ts : List Addr}, Paired (RecAt K H2) ts (xs ++ [r]) → ∃ qs t, ts = qs ++ [t] ∧ RecAt K H2 t r := by
            intro xs
            induction xs with
            | nil =>
              intro ts h
              cases h with
              | cons a b => cases b; exact ⟨[], _, rfl, a⟩
            | cons y ys ih =>
              intro ts h
              cases h with
              | cons a b =>
                obtain ⟨qs, p, e, g⟩ := ih b
                exact ⟨_ :: qs, p, by rw [e]; rfl, g⟩
          exact this pr2
        obtain ⟨ys, hts, _⟩ := ht
        have hol2' := hol2
        rw [et, List.map_append] at hol2'
        refine ⟨_, rfl, p, C, dx, _, _, rfl, hp2, T.cl, T.k_or, lk_here, true, .inl ⟨_, SqL.of hol2', ?_⟩, iteT ⟨_, rfl, p, C, dx, _, _, rfl, hp2, T.cl, T.k_or, lk_here, 1, rfl, ol, _, _, V.ref t, rfl, rfl, SqL.of hol2', atI_last _ _, t, _, _, _, rfl, rfl, hts, atI_nat (j := 0) rfl, _, _, rfl, rfl, ?_, rfl⟩⟩
        · cases qs <;> rfl
        · unfold presentO
          rw [List.getLast?_concat]
    rintro v H' ⟨rfl, rfl⟩
    refine ⟨_, rfl, p, C, dx, _, rfl, hp2, T.cl, T.k_pr, by show 1 < 1000; decide, ?_⟩
    have o3 : Off [p] H (upd H' p (.ins C dx (putF "present" (.int (presentO rs)) [("ordered", .ref ol)]))) := o2.trans (Off.upd (by simp))
    have hp3 : (upd H' p (.ins C dx (putF "present" (.int (presentO rs)) [("ordered", .ref ol)]))) p = some (.ins C dx [("ordered", .ref ol), ("present", .int (presentO rs))]) := by
      rw [upd_same, putF_new (by simp only [List.mem_singleton, forall_eq]; decide)]; rfl
    have hol3 : (upd H' p (.ins C dx (putF "present" (.int (presentO rs)) [("ordered", .ref ol)]))) ol = some (.lst (ts.map V.ref)) := by rw [upd_ne nolp]; exact hol2
    have pr3 : Paired (RecAt K (upd H' p (.ins C dx (putF "present" (.int (presentO rs)) [("ordered", .ref ol)])))) ts rs := paired_rtk (tk_ins (Off.upd (by simp)) hp2) hg pr2
    generalize upd H' p (.ins C dx (putF "present" (.int (presentO rs)) [("ordered", .ref ol)])) = H3 at o3 hp3 hol3 pr3
    refine fun bt hbt => ?_
    have s4 := same_new (o := .dT []) hbt
    have hbt0 : H bt = Option.none := by
      cases hh : H bt with
      | none => rfl
      | some u =>
        have : bt ≠ p := fun e => by rw [e, hp3] at hbt; cases hbt
        rw [o3 _ _ hh (by simpa using this)] at hbt; cases hbt
    have nbp : bt ≠ p := fun e => by rw [e, hp3] at hbt; cases hbt
    refine ⟨_, rfl, p, C, dx, _, rfl, s4 _ _ hp3, T.cl, T.k_bt, by show 2 < 1000; decide, ?_⟩
    have hp4 : (upd (upd H3 bt (.dT [])) p (.ins C dx (putF "_by_topic" (.ref bt) [("ordered", .ref ol), ("present", .int (presentO rs))]))) p = some (.ins C dx [("ordered", .ref ol), ("present", .int (presentO rs)), ("_by_topic", .ref bt)]) := by
      rw [upd_same, putF_new (by simp only [List.mem_cons, List.not_mem_nil, or_false, forall_eq_or_imp, forall_eq]; decide)]; rfl
    have o4 : Off [p] H3 (upd (upd H3 bt (.dT [])) p (.ins C dx (putF "_by_topic" (.ref bt) [("ordered", .ref ol), ("present", .int (presentO rs))]))) := (Off.of s4).trans (Off.upd (by simp))
    have hbt4 : (upd (upd H3 bt (.dT [])) p (.ins C dx (putF "_by_topic" (.ref bt) [("ordered", .ref ol), ("present", .int (presentO rs))]))) bt = some (.dT []) := by rw [upd_ne nbp, upd_same]
    generalize upd (upd H3 bt (.dT [])) p (.ins C dx (putF "_by_topic" (.ref bt) [("ordered", .ref ol), ("present", .int (presentO rs))])) = H4 at hp4 o4 hbt4
    have hol4 := o4 _ _ hol3 (by simpa using nolp)
    have pr4 := paired_rtk (tk_ins o4 hp3) hg pr3
    refine fun bg hbg => ?_
    have s5 := same_new (o := .dK []) hbg
    have nbgp : bg ≠ p := fun e => by rw [e, hp4] at hbg; cases hbg
    have hbg0 : H bg = Option.none := by
      cases hh : H bg with
      | none => rfl
      | some u => rw [(o3.trans o4) _ _ hh (by simpa using nbgp)] at hbg; cases hbg
    refine ⟨_, rfl, p, C, dx, _, rfl, s5 _ _ hp4, T.cl, T.k_be, by show 3 < 1000; decide, ?_⟩
    have hp5 : (upd (upd H4 bg (.dK [])) p (.ins C dx (putF "_begins" (.ref bg) [("ordered", .ref ol), ("present", .int (presentO rs)), ("_by_topic", .ref bt)]))) p = some (.ins C dx (f4 ol (presentO rs) bt bg)) := by
      rw [upd_same, putF_new (by simp only [List.mem_cons, List.not_mem_nil, or_false, forall_eq_or_imp, forall_eq]; decide)]; rfl
    have o5 : Off [p] H4 (upd (upd H4 bg (.dK [])) p (.ins C dx (putF "_begins" (.ref bg) [("ordered", .ref ol), ("present", .int (presentO rs)), ("_by_topic", .ref bt)]))) := (Off.of s5).trans (Off.upd (by simp))
    have hbg5 : (upd (upd H4 bg (.dK [])) p (.ins C dx (putF "_begins" (.ref bg) [("ordered", .ref ol), ("present", .int (presentO rs)), ("_by_topic", .ref bt)]))) bg = some (.dK []) := by rw [upd_ne nbgp, upd_same]
    generalize upd (upd H4 bg (.dK [])) p (.ins C dx (putF "_begins" (.ref bg) [("ordered", .ref ol), ("present", .int (presentO rs)), ("_by_topic", .ref bt)])) = H5 at hp5 o5 hbg5
    have L5 : LS K H C p dx ol bt bg ts rs [ol] (fun _ => []) [] (fun _ => none) [] H5 :=
      ⟨o3.trans (o4.trans o5), hp5, o5 _ _ hol4 (by simpa using nolp), paired_rtk (tk_ins o5 hp4) hg pr4, ⟨o5 _ _ hbt4 (by simpa using nbp), List.nodup_nil, fun k => .inr ⟨rfl, rfl⟩, fun _ _ e => (nomatch e), fun _ _ _ e => (nomatch e), fun _ _ hx => (nomatch hx)⟩, hbg5, fun n => rfl, fun _ hq => (nomatch hq)⟩
    clear hp2 hol2 pr2 o2 hp3 hol3 pr3 o3 hp4 o4 hbt4 hol4 pr4 hbg hbt s4 s5 hp5 o5 hbg5
    refine ⟨_, rfl, p, C, dx, _, _, rfl, L5.p, T.cl, T.k_or, f4_or, ol, rfl, ⟨_, SqL.of L5.l⟩, ?_⟩
    refine for_list (K := K) (a := ol) (xs := ts.map V.ref) (fun i σ' H' => ∃ (v2 v3 v4 v5 : Option V) (kvs : TKV) (bks : List (Key × V)), σ' = [some (.ref p), some (.ref a), v2, v3, v4, v5] ∧ LS K H C p dx ol bt bg ts rs [ol] (rowsF (rs.take i)) kvs (begO (rs.take i)) bks H' ∧ (∀ k, valV kvs k ≠ none → rowsF (rs.take i) k ≠ []) ∧ kvs.length ≤ 3 * i ∧ bks.length ≤ 3 * i)
      ⟨_, _, _, _, [], [], rfl, L5, fun _ h => absurd rfl h, Nat.le_refl _, Nat.le_refl _⟩ (fun i σ' H' _ ⟨_, _, _, _, _, _, _, L, _⟩ => SqL.of L.l) ?_ ?_
    · rintro i x σ' H6 hx ⟨v2, v3, v4, v5, kvs0, bks0, rfl, L6, ne6, kl6, bl6⟩
      obtain ⟨t, hti, rfl⟩ := map_get hx
      obtain ⟨r, hri, hrt⟩ := paired_at L6.pr hti
      have hil := (List.getElem?_eq_some_iff.mp hri).1
      have gr := hg r (List.mem_of_getElem? hri)
      have tki : rs.take (i + 1) = rs.take i ++ [r] := by rw [List.take_add_one, hri]; rfl
      refine ⟨_, rfl, t, r, rfl, hrt, fun le es H7 s7 hle pe => ⟨le, rfl, ⟨_, SqL.of hle⟩, ?_⟩⟩
      have L7 := L6.same s7
      have ge := effR_t gr
      have nle : ∀ k l, valV kvs0 k = some (.ref l) → l ∉ [le, ol] := fun k l e hm => by
        rcases List.mem_cons.mp hm with rfl | hm
        · obtain ⟨ps, a, b⟩ := L7.tb.lst e
          rw [hle] at a
          have hne := ne6 k (by rw [e]; simp)
          exact rows_not_effs hne b pe (by
            have := Option.some.inj a
            injection this with z
            exact z.symm)
        · exact (L6.tb.own k l e).2 hm
      have rl3 : rs.length ≤ 100 := rl
      have inner0 : LS K H C p dx ol bt bg ts rs [le, ol] (ρAt (rs.take i) r 0) kvs0 (βAt (rs.take i) r 0) bks0 H7 := by
        rw [ρAt_zero, βAt_zero]
        exact ⟨L7.o, L7.p, L7.l, L7.pr, L7.tb.set nle, L7.g, L7.gv, L7.gk⟩
      refine for_list (K := K) (a := le) (xs := es.map V.ref) (fun m σ' H' => ∃ (v3 v4 : Option V) (kvs : TKV) (bks : List (Key × V)), σ' = [some (.ref p), some (.ref a), some (.ref t), v3, v4, v5] ∧ LS K H C p dx ol bt bg ts rs [le, ol] (ρAt (rs.take i) r m) kvs (βAt (rs.take i) r m) bks H' ∧ H' le = some (.lst (es.map V.ref)) ∧ Paired (EffAt K H') es (effR r) ∧ RecAt K H' t r ∧ (∀ k, valV kvs k ≠ none → ρAt (rs.take i) r m k ≠ []) ∧ kvs.length ≤ 3 * i + m ∧ bks.length ≤ 3 * i + m)
        ⟨_, _, kvs0, bks0, rfl, inner0, hle, pe, hrt.same s7, by rw [ρAt_zero]; exact ne6, by omega, by omega⟩ (fun m σ' H' _ ⟨_, _, _, _, _, _, hl', _⟩ => SqL.of hl') ?_ ?_
      · rintro m x σ' H8 hx ⟨v3, v4, kvs, bks, rfl, L8, hle8, pe8, rt8, ne8, kl8, bl8⟩
        obtain ⟨e, hei, rfl⟩ := map_get hx
        obtain ⟨ef, hefi, he⟩ := paired_at pe8 hei
        have hefm := List.mem_of_getElem? hefi
        have hml := (List.getElem?_eq_some_iff.mp hefi).1
        have el3 := effR_len (r := r)
        obtain ⟨tt, v, a1, a2, a3⟩ := he
        obtain ⟨kw, kn, kr, ek⟩ := effR_form ef hefm
        have hww : word ef.1 = kw := by rw [ek]; rfl
        have hss : spaceK ef.1 = kn := by rw [ek]; rfl
        have nbt_p : p ≠ bt := ne_of L8.p L8.tb.d (fun z => nomatch z)
        have nbt_l : ol ≠ bt := ne_of L8.l L8.tb.d (fun z => nomatch z)
        have nbt_g : bg ≠ bt := ne_of L8.g L8.tb.d (fun z => nomatch z)
        have nbt_le : le ≠ bt := ne_of hle8 L8.tb.d (fun z => nomatch z)
        refine ⟨e, _, rfl, SqT.of a1, rfl, _, _, rfl, _, _, rfl, rfl, ?_⟩
        refine ⟨fun v' H' => ∃ l kvs', v' = .ref l ∧ valV kvs' ef.1 = some (.ref l) ∧ (∀ j, j ≠ ef.1 → valV kvs' j = valV kvs j) ∧ kvs'.length ≤ kvs.length + 1 ∧ LS K H C p dx ol bt bg ts rs [le, ol] (ρAt (rs.take i) r m) kvs' (βAt (rs.take i) r m) bks H' ∧ H' le = some (.lst (es.map V.ref)) ∧ TK H8 H', ?_, ?_⟩
        · refine ⟨_, rfl, p, C, dx, _, _, rfl, L8.p, T.cl, T.k_bt, f4_bt, bt, rfl, .inr ⟨kvs, .inl L8.tb.d⟩, _, rfl, by show 0 ≤ sizeLine; decide, fun z hz => ?_⟩
          have sz := same_new (o := .lst []) hz
          refine ⟨kvs, ef.1, tt, sz _ _ L8.tb.d, rfl, sz _ _ a2, small1000 (by omega), fun v' hv' => ?_, fun hnn => ?_⟩
          · rcases L8.tb.at_ ef.1 with ⟨l, ps, b1, b2, b3⟩ | ⟨b1, _⟩
            · rw [hv'] at b1; cases b1
              exact ⟨l, kvs, rfl, hv', fun _ _ => rfl, by omega, L8.same sz, sz _ _ hle8, TK.of sz⟩
            · rw [hv'] at b1; cases b1
          · have hz0 : H z = Option.none := by
              cases hh : H z with
              | none => rfl
              | some u =>
                have : z ≠ p := fun e => by rw [e, L8.p] at hz; cases hz
                rw [L8.o _ _ hh (by simpa using this)] at hz; cases hz
            have hzX : z ∉ [le, ol] := fun hm => by
              rcases List.mem_cons.mp hm with rfl | hm
              · rw [hle8] at hz; cases hz
              · rw [List.mem_singleton.mp hm, L8.l] at hz; cases hz
            obtain ⟨tb9, tk9⟩ := L8.tb.setd hz hz0 hzX hnn
            have keep : ∀ b u, H8 b = some u → b ≠ bt → (upd (upd H8 z (.lst [])) bt (.dT (putK kvs ef.1 (.ref z)))) b = some u := fun b u e n => by rw [upd_ne n]; exact sz _ _ e
            exact ⟨z, _, rfl, by rw [valV_put, if_pos rfl], fun j hj => by rw [valV_put, if_neg hj], length_putK _ _ _, L8.chg hg tb9 tk9 hbt0 keep nbt_p nbt_l nbt_g, keep _ _ hle8 nbt_le, tk9⟩
        · rintro v' H9 ⟨l, kvs', rfl, hv, hoth, kl9, L9, hle9, tk9⟩
          obtain ⟨ps, hl, prw⟩ := L9.tb.lst hv
          have rt9 := rt8.tk gr tk9
          obtain ⟨ys, hts, _⟩ := id rt9
          have hv9 := dp_tk tk9 _ _ (ge _ hefm) a3
          have a29 := tk9.t _ _ a2
          have pe9 := paired_etk tk9 ge pe8
          have own := L9.tb.own _ _ hv
          have nl_le : le ≠ l := fun e => own.2 (by rw [← e]; simp)
          have nl_ol : ol ≠ l := fun e => own.2 (by rw [← e]; simp)
          have nl_p : p ≠ l := ne_of L9.p hl (fun z => nomatch z)
          have nl_g : bg ≠ l := ne_of L9.g hl (fun z => nomatch z)
          have plen : ps.length ≤ 303 := by
            have z := prw.length
            rw [z]
            unfold ρAt
            have r1 := rowsF_len (rs := rs.take i) (k := ef.1)
            have r2 : (rowsE r.o ef.1 ((effR r).take m)).length ≤ ((effR r).take m).length := List.length_filterMap_le _ _
            rw [List.length_take] at r1 r2
            rw [List.length_append]; omega
          refine ⟨.inl ⟨rfl, _, SqL.of hl⟩, _, rfl, t, _, _, _, rfl, rfl, hts, atI_nat (j := 0) rfl, _, rfl, by show 2 ≤ sizeLine; decide, fun p' hp' => nil_ ⟨l, _, _, rfl, rfl, same_new hp' _ _ hl, by rw [List.length_map]; exact small1000 (by omega), ?_⟩⟩
          obtain ⟨tb10, tk10, keep10⟩ := L9.tb.app hv hl prw hp' hv9 (ge _ hefm)
          rw [ρAt_succ hefi] at tb10
          have L10 := L9.chg hg tb10 tk10 own.1 keep10 nl_p nl_ol nl_g
          have hle10 := keep10 _ _ hle9 nl_le
          have pe10 := paired_etk tk10 ge pe9
          have rt10 := rt9.tk gr tk10
          have a210 := tk10.t _ _ a29
          have ne10 : ∀ k, valV kvs' k ≠ none → ρAt (rs.take i) r (m + 1) k ≠ [] := fun k hk => by
            rw [← ρAt_succ hefi]
            unfold addR
            by_cases c : k = ef.1
            · rw [if_pos c]; simp
            · rw [if_neg c]
              rw [hoth k c] at hk
              exact ne8 k hk
          generalize upd (upd H9 p' (.tup [.int r.o, v])) l (.lst (ps.map V.ref ++ [.ref p'])) = H10 at L10 hle10 pe10 rt10 a210
          have hk' : H10 tt = some (.tup (V.str kw :: V.int kn :: kr.map kV)) := by rw [ek] at a210; exact a210
          obtain ⟨ys2, hts10, _⟩ := id rt10
          refine ⟨_, rfl, tt, _, _, _, rfl, rfl, SqT.of hk', atI_nat (j := 0) rfl, aHT, _, rfl, .inr (tHT _), rfl, (flat_strs (ns := ["host", "told"])), _, rfl, ?_⟩
          rw [show ([V.str "host", V.str "told"] : List V) = (["host", "told"] : List Str).map V.str from rfl, inV_str]
          cases ch : strIn kw ["host", "told"] with
          | true =>
            refine iteF ⟨_, _, kvs', bks, rfl, ?_, hle10, pe10, rt10, ne10, by omega, by omega⟩
            rw [βAt_no hefi (by rw [hww]; exact ch)]
            exact L10
          | false =>
            have by_ := βAt_yes (rs := rs.take i) hefi (by rw [hww]; exact ch)
            rw [hss] at by_
            refine iteT ⟨_, rfl, p, C, dx, _, _, rfl, L10.p, T.cl, T.k_be, f4_bg, bg, rfl, .inl ⟨bks, .inl L10.g⟩, _, rfl, tt, _, _, _, rfl, rfl, SqT.of hk', atI_nat (j := 1) rfl, _, rfl, t, _, _, _, rfl, rfl, hts10, atI_nat (j := 0) rfl, bks, .inl kn, L10.g, rfl, small1000 (by omega), fun v' hv' => ?_, fun hnn => ?_⟩
            · refine ⟨_, _, kvs', bks, rfl, ⟨L10.o, L10.p, L10.l, L10.pr, L10.tb, L10.g, fun n => ?_, L10.gk⟩, hle10, pe10, rt10, ne10, by omega, by omega⟩
              rw [by_, L10.gv]
              by_cases c : n = kn
              · rw [if_pos c]
                have z := L10.gv kn
                rw [hv'] at z
                rw [c]
                cases hb : βAt (rs.take i) r m kn with
                | none => rw [hb] at z; cases z
                | some x => rfl
              · rw [if_neg c]
            · have z := L10.gv kn
              rw [hnn] at z
              have bn : βAt (rs.take i) r m kn = none := by
                cases hb : βAt (rs.take i) r m kn with
                | none => rfl
                | some x => rw [hb] at z; cases z
              have L11 := L10.beg hg hbg0 (n := kn) (o := r.o) (β' := βAt (rs.take i) r (m + 1)) (fun j => by
                rw [by_]
                by_cases c : j = kn
                · rw [if_pos c, if_pos c, c, bn]; rfl
                · rw [if_neg c, if_neg c])
              have tk11 := tk_dK (kvs' := putK bks (.inl kn) (.int r.o)) L10.g
              have := length_putK bks (.inl kn) (.int r.o)
              exact ⟨_, _, kvs', _, rfl, L11, by rw [upd_ne (ne_of hle10 L10.g (fun z => nomatch z))]; exact hle10, paired_etk tk11 ge pe10, rt10.tk gr tk11, ne10, by omega, by omega⟩
      · rintro σ' H8 ⟨v3, v4, kvs, bks, rfl, L8, hle8, pe8, rt8, ne8, kl8, bl8⟩
        have el := pe8.length
        have el3 := effR_len (r := r)
        rw [List.length_map, el] at L8 ne8 kl8 bl8
        rw [ρAt_end (Nat.le_refl _), βAt_end (Nat.le_refl _), ← tki] at L8
        rw [ρAt_end (Nat.le_refl _), ← tki] at ne8
        exact ⟨_, _, _, _, kvs, bks, rfl, ⟨L8.o, L8.p, L8.l, L8.pr, L8.tb.set (fun k l e hm => (L8.tb.own k l e).2 (List.mem_cons_of_mem _ hm)), L8.g, L8.gv, L8.gk⟩, ne8, by omega, by omega⟩
    · rintro σ' H6 ⟨v2, v3, v4, v5, kvs, bks, rfl, L6, ne6, kl6, bl6⟩
      rw [List.length_map, hlen, List.take_length] at L6 ne6
      rw [List.length_map, hlen] at kl6 bl6
      have hBT : BT K H6 bt rs kvs := ⟨.inl L6.tb.d, L6.tb.nd, fun k hk => by
        rcases L6.tb.at_ k with ⟨l, ps, a, b, c⟩ | ⟨_, e⟩
        · exact ⟨l, ps, a, b, c⟩
        · exact absurd e hk, fun k hk => by
        cases e : valV kvs k with
        | none => rfl
        | some v => exact absurd hk (ne6 k (by rw [e]; simp)), kl6⟩
      have bmem : ∀ n : Int, (∃ q ∈ bks, q.1 = .inl n) ↔ begO rs n ≠ none := fun n => by
        have z := L6.gv n
        constructor
        · rintro ⟨q, hq, e⟩ hn
          rw [hn] at z
          have : valV bks (.inl n) ≠ none := by
            intro w
            have v := valV_any (Sum.inl n : Key) bks
            rw [w] at v
            have : (bks.any fun kv => decide (kv.1 = Sum.inl n)) = true := List.any_eq_true.mpr ⟨q, hq, decide_eq_true e⟩
            rw [this] at v; cases v
          exact this z
        · intro hn
          cases hb : begO rs n with
          | none => exact absurd hb hn
          | some x =>
            rw [hb] at z
            obtain ⟨q, hq, e⟩ := List.mem_map.mp (valV_in z)
            exact ⟨q, hq, e⟩
      refine ⟨bg, _, L6.g, trivial, fun od => ?_⟩
      have nbgp2 : p ≠ bg := ne_of L6.p L6.g (fun z => nomatch z)
      have hp7 : (upd H6 bg (.frz od (.dK bks))) p = some (.ins C dx (f4 ol (presentO rs) bt bg)) := by rw [upd_ne nbgp2]; exact L6.p
      have hbg7 : (upd H6 bg (.frz od (.dK bks))) bg = some (.frz od (.dK bks)) := upd_same
      have k67 : ∀ b u, H6 b = some u → b ≠ bg → (upd H6 bg (.frz od (.dK bks))) b = some u := fun b u e n => by rw [upd_ne n]; exact e
      have f67 : ∀ b, (upd H6 bg (.frz od (.dK bks))) b = Option.none → H6 b = Option.none := fun b e => by
        have : b ≠ bg := fun z => by rw [z, upd_same] at e; cases e
        rw [upd_ne this] at e; exact e
      generalize upd H6 bg (.frz od (.dK bks)) = H7 at hp7 hbg7 k67 f67
      refine ⟨_, rfl, p, C, dx, _, _, rfl, hp7, T.cl, T.k_be, f4_bg, bg, od, rfl, .inl ⟨bks, hbg7, fun D hD => ?_⟩⟩
      have nDp : D ≠ p := fun e => by rw [e, hp7] at hD; cases hD
      have nDbg : D ≠ bg := fun e => by rw [e, hbg7] at hD; cases hD
      refine dc_it walk_keys (fun i H' => ∃ sks : List (Key × V), Same H7 H' ∧ H' D = some (.dK sks) ∧ sks.length ≤ i ∧ (∀ n : Int, (∃ q ∈ bks.take i, q.1 = .inl n) → ∃ l, valV sks (.inl n) = some (.ref l) ∧ H' l = some (.lst []) ∧ H7 l = Option.none) ∧ (∀ n : Int, ¬ (∃ q ∈ bks.take i, q.1 = .inl n) → valV sks (.inl n) = none) ∧ ∀ (n n' : Int) l, valV sks (.inl n) = some (.ref l) → valV sks (.inl n') = some (.ref l) → n = n')
        ⟨[], same_new hD, upd_same, Nat.le_refl _, (fun n ⟨q, hq, _⟩ => by simp at hq), fun _ _ => rfl, fun _ _ _ e => nomatch e⟩ (fun i H' _ ⟨_, sm, _⟩ => sm _ _ hbg7) ?_ ?_
      · rintro i x H' H'' hi ⟨sks, sm, hD', sl, yes, no, inj⟩ ⟨rfl, k, v, hki, rfl⟩
        obtain ⟨n, rfl⟩ : ∃ n : Int, k = .inl n := L6.gk _ (List.mem_of_getElem? hki)
        have tkb : bks.take (i + 1) = bks.take i ++ [(.inl n, v)] := by rw [List.take_add_one, hki]; rfl
        refine ⟨rfl, yesIte ⟨_, rfl, by show 0 ≤ sizeLine; decide, fun z hz => ⟨sks, .inl n, rfl, same_new hz _ _ hD', small1000 (by omega), ?_⟩⟩⟩
        have sz := same_new (o := .lst []) hz
        have nzD : z ≠ D := fun e => by rw [e, hD'] at hz; cases hz
        have old : ∀ (j : Int) l, valV sks (.inl j) = some (.ref l) → H'' l = some (.lst []) ∧ H7 l = Option.none := fun j l e => by
          by_cases c : ∃ q ∈ bks.take i, q.1 = .inl j
          · obtain ⟨l', a1, a2, a3⟩ := yes j c
            rw [e] at a1; cases a1
            exact ⟨a2, a3⟩
          · rw [no j c] at e; cases e
        refine ⟨_, fun b u e => ?_, upd_same, Nat.le_trans (length_putK _ _ _) (by omega), fun j hj => ?_, fun j hj => ?_, fun j j' l e e' => ?_⟩
        · have : b ≠ D := fun w => by rw [w, hD] at e; cases e
          rw [upd_ne this]; exact sz _ _ (sm _ _ e)
        · rw [valV_put]
          by_cases c : j = n
          · rw [if_pos (by rw [c])]
            exact ⟨z, rfl, by rw [upd_ne nzD, upd_same], sm.free hz⟩
          · rw [if_neg (fun w => c (Sum.inl.inj w))]
            have : ∃ q ∈ bks.take i, q.1 = .inl j := by
              obtain ⟨q, hq, e⟩ := hj
              rw [tkb] at hq
              rcases List.mem_append.mp hq with hq | hq
              · exact ⟨q, hq, e⟩
              · rw [List.mem_singleton.mp hq] at e; exact absurd (Sum.inl.inj e).symm c
            obtain ⟨l, a1, a2, a3⟩ := yes j this
            exact ⟨l, a1, by rw [upd_ne (ne_of a2 hD' (fun z => nomatch z))]; exact sz _ _ a2, a3⟩
        · rw [valV_put]
          by_cases c : j = n
          · exact absurd ⟨(.inl n, v), by rw [tkb]; simp, by rw [c]⟩ hj
          · rw [if_neg (fun w => c (Sum.inl.inj w))]
            exact no j fun ⟨q, hq, e⟩ => hj ⟨q, by rw [tkb]; exact List.mem_append.mpr (.inl hq), e⟩
        · rw [valV_put] at e e'
          by_cases c : j = n <;> by_cases c' : j' = n
          · rw [c, c']
          · rw [if_pos (by rw [c])] at e
            rw [if_neg (fun w => c' (Sum.inl.inj w))] at e'
            cases e
            have := (old j' z e').1
            rw [this] at hz; cases hz
          · rw [if_neg (fun w => c (Sum.inl.inj w))] at e
            rw [if_pos (by rw [c'])] at e'
            cases e'
            have := (old j z e).1
            rw [this] at hz; cases hz
          · rw [if_neg (fun w => c (Sum.inl.inj w))] at e
            rw [if_neg (fun w => c' (Sum.inl.inj w))] at e'
            exact inj j j' l e e'
      · rintro H' ⟨sks, sm, hD', sl, yes, no, inj⟩
        rw [List.take_length] at yes no
        have hp' := sm _ _ hp7
        refine ⟨sm _ _ hbg7, _, rfl, p, C, dx, _, rfl, by rw [upd_ne nbgp2]; exact hp', T.cl, T.k_sn, by show 4 < 1000; decide, ?_⟩
        have hp8 : (upd (upd H' bg (.dK bks)) p (.ins C dx (putF "_snapshots" (.ref D) (f4 ol (presentO rs) bt bg)))) p = some (.ins C dx (rf ol (presentO rs) bt bg D)) := by
          rw [upd_same, putF_new (by unfold f4; simp only [List.mem_cons, List.not_mem_nil, or_false, forall_eq_or_imp, forall_eq]; decide)]; rfl
        have o8 : Off [p] H6 (upd (upd H' bg (.dK bks)) p (.ins C dx (putF "_snapshots" (.ref D) (f4 ol (presentO rs) bt bg)))) := fun b u e n => by
          rw [upd_ne (by simpa using n)]
          by_cases c : b = bg
          · rw [c, upd_same]; rw [c, L6.g] at e; exact e
          · rw [upd_ne c]; exact sm _ _ (k67 _ _ e c)
        have hD8 : (upd (upd H' bg (.dK bks)) p (.ins C dx (putF "_snapshots" (.ref D) (f4 ol (presentO rs) bt bg)))) D = some (.dK sks) := by rw [upd_ne nDp, upd_ne nDbg]; exact hD'
        have yes8 : ∀ n : Int, begO rs n ≠ none → ∃ l, valV sks (.inl n) = some (.ref l) ∧ (upd (upd H' bg (.dK bks)) p (.ins C dx (putF "_snapshots" (.ref D) (f4 ol (presentO rs) bt bg)))) l = some (.lst []) ∧ H6 l = Option.none := fun n hn => by
          obtain ⟨l, a1, a2, a3⟩ := yes n ((bmem n).mpr hn)
          refine ⟨l, a1, ?_, f67 l a3⟩
          rw [upd_ne (ne_of a2 hp' (fun z => nomatch z)), upd_ne (ne_of a2 (sm _ _ hbg7) (fun z => nomatch z))]; exact a2
        have no8 : ∀ n : Int, begO rs n = none → valV sks (.inl n) = none := fun n hn => no n fun h => (bmem n).mp h hn
        generalize upd (upd H' bg (.dK bks)) p (.ins C dx (putF "_snapshots" (.ref D) (f4 ol (presentO rs) bt bg))) = H8 at hp8 o8 hD8 yes8
        have nbtp : bt ≠ p := fun e => ne_of L6.p L6.tb.d (fun z => nomatch z) e.symm
        have hbt8 := o8 _ _ L6.tb.d (by simpa using nbtp)
        refine ⟨bt, _, hbt8, trivial, fun od2 => ?_⟩
        have nDbt : D ≠ bt := ne_of hD8 hbt8 (fun z => nomatch z)
        have hbt9 : (upd H8 bt (.frz od2 (.dT kvs))) bt = some (.frz od2 (.dT kvs)) := upd_same
        have o9 : Off [p, bt] H6 (upd H8 bt (.frz od2 (.dT kvs))) := fun b u e n => by
          have n1 : b ≠ p := fun z => n (by simp [z])
          have n2 : b ≠ bt := fun z => n (by simp [z])
          rw [upd_ne n2]; exact o8 _ _ e (by simpa using n1)
        have hp9 : (upd H8 bt (.frz od2 (.dT kvs))) p = some (.ins C dx (rf ol (presentO rs) bt bg D)) := by rw [upd_ne (fun z => nbtp z.symm)]; exact hp8
        have hD9 : (upd H8 bt (.frz od2 (.dT kvs))) D = some (.dK sks) := by rw [upd_ne nDbt]; exact hD8
        have yes9 : ∀ n : Int, begO rs n ≠ none → ∃ l, valV sks (.inl n) = some (.ref l) ∧ (upd H8 bt (.frz od2 (.dT kvs))) l = some (.lst []) ∧ H6 l = Option.none := fun n hn => by
          obtain ⟨l, a1, a2, a3⟩ := yes8 n hn
          exact ⟨l, a1, by rw [upd_ne (ne_of a2 hbt8 (fun z => nomatch z))]; exact a2, a3⟩
        generalize upd H8 bt (.frz od2 (.dT kvs)) = H9 at hbt9 o9 hp9 hD9 yes9
        refine ⟨_, rfl, p, C, dx, _, _, rfl, hp9, T.cl, T.k_bt, rf_bt, bt, od2, rfl, .inr ⟨kvs, hbt9, ?_⟩⟩
        refine for_it walk_keysT (fun i σ' H' => ∃ v3 : Option V, σ' = [some (.ref p), some (.ref a), v2, v3, v4, v5] ∧ Off [p, bt] H6 H' ∧ H' p = some (.ins C dx (rf ol (presentO rs) bt bg D)) ∧ H' bt = some (.frz od2 (.dT kvs)) ∧ H' D = some (.dK sks) ∧ ∀ n : Int, begO rs n ≠ none → ∃ (l : Addr) (zs : List Int), valV sks (.inl n) = some (.ref l) ∧ H' l = some (.lst (zs.map V.int)) ∧ zs.length ≤ i ∧ H6 l = Option.none ∧ (∀ m, m ∈ zs ↔ (snapK n m ∈ (kvs.take i).map (·.1) ∧ SnapEx rs n m)) ∧ zs.Nodup)
          ⟨_, rfl, o9, hp9, hbt9, hD9, fun n hn => by
            obtain ⟨l, a1, a2, a3⟩ := yes9 n hn
            exact ⟨l, [], a1, a2, Nat.le_refl _, a3, (fun m => by simp), List.nodup_nil⟩⟩ (fun i σ' H' _ ⟨_, _, _, _, hb, _⟩ => hb) ?_ ?_
        · rintro i x σ' HA HB hi ⟨v3, rfl, oA, hpA, hbA, hDA, snA⟩ ⟨rfl, k, v, qa, hki, rfl, hqa⟩
          have tkA : (kvs.take (i + 1)).map (·.1) = (kvs.take i).map (·.1) ++ [k] := by rw [List.take_add_one, hki, List.map_append]; rfl
          have kmem : k ∈ kvs.map (·.1) := List.mem_map.mpr ⟨_, List.mem_of_getElem? hki, rfl⟩
          have krow := hBT.mem.mp kmem
          obtain ⟨r, hr', ef, hef, hke⟩ := rowsF_ex.mp krow
          have kform : TForm k := by rw [← hke]; exact effR_form ef hef
          have ksn : SForm k := by rw [← hke]; exact effR_s ef hef
          have kok : KOk k := by rw [← hke]; exact effR_k ef hef
          obtain ⟨kw, kn, kr, ek⟩ := id kform
          have hww : word k = kw := by rw [ek]; rfl
          have hk' : HB qa = some (.tup (V.str kw :: V.int kn :: kr.map kV)) := by
            have z := hqa
            rw [ek] at z; exact z
          have hro : RO K C HB p rs := ⟨dx, ol, bt, bg, D, kvs, hpA, hBT.off oA L6.p L6.tb.d (.inr ⟨od2, hbA⟩) hg⟩
          have stay : (∀ n m, k = snapK n m → shownB rs k = false) → ∀ Hx, Same HB Hx → ∀ n : Int, begO rs n ≠ none → ∃ (l : Addr) (zs : List Int), valV sks (.inl n) = some (.ref l) ∧ Hx l = some (.lst (zs.map V.int)) ∧ zs.length ≤ i + 1 ∧ H6 l = Option.none ∧ (∀ m, m ∈ zs ↔ (snapK n m ∈ (kvs.take (i + 1)).map (·.1) ∧ SnapEx rs n m)) ∧ zs.Nodup := fun hno Hx sx n hn => by
            obtain ⟨l, zs, a1, a2, a3, a4, a5, a6⟩ := snA n hn
            refine ⟨l, zs, a1, sx _ _ a2, by omega, a4, fun m => ?_, a6⟩
            rw [a5, tkA, List.mem_append]
            constructor
            · rintro ⟨z1, z2⟩; exact ⟨.inl z1, z2⟩
            · rintro ⟨z1 | z1, z2⟩
              · exact ⟨z1, z2⟩
              · have e := (List.mem_singleton.mp z1).symm
                have := hno n m e
                unfold SnapEx at z2
                rw [← e, this] at z2; cases z2
          refine ⟨_, rfl, qa, _, _, _, rfl, rfl, SqT.of hk', atI_nat (j := 0) rfl, rfl, _, rfl, ?_⟩
          by_cases cw : kw = "snap"
          · rw [cw, str_eqT]
            obtain ⟨n0, m0, ek2⟩ := ksn (hww.trans cw)
            refine iteT ⟨_, rfl, p, _, _, rfl, hpA, rf_no (by decide) (by decide) (by decide) (by decide) (by decide), _, rfl, p, qa, rs, k, rfl, hro, hqa, kform, rl, fun HC sC => ⟨_, rfl, ?_⟩⟩
            cases hsh : shownB rs k with
            | false =>
              exact iteF ⟨_, rfl, oA.trans (Off.of sC), sC _ _ hpA, sC _ _ hbA, sC _ _ hDA, stay (fun n m e => hsh) HC sC⟩
            | true =>
              have hq2 : HC qa = some (.tup [V.str "snap", V.int n0, V.int m0]) := by
                have z := sC _ _ hqa
                rw [ek2] at z; exact z
              have hbn : begO rs n0 ≠ none := fun hn => by
                have := begO_none.mp hn r hr'
                rw [member_of hef (hke.trans ek2) (by decide) (by decide)] at this; cases this
              obtain ⟨l, zs, a1, a2, a3, a4, a5, a6⟩ := snA n0 hbn
              have a2C := sC _ _ a2
              have hpC := sC _ _ hpA
              have hbC := sC _ _ hbA
              have hDC := sC _ _ hDA
              have ln3 := hBT.ln
              refine iteT ⟨_, rfl, p, C, dx, _, _, rfl, hpC, T.cl, T.k_sn, rf_sn, _, rfl, qa, _, _, _, rfl, rfl, SqT.of hq2, atI_nat (j := 1) rfl, D, _, rfl, .inl ⟨sks, .inl n0, .inl hDC, rfl, a1.symm⟩, .inl ⟨rfl, _, SqL.of a2C⟩, _, rfl, qa, _, _, _, rfl, rfl, SqT.of hq2, atI_nat (j := 2) rfl, nil_ ⟨l, _, _, rfl, rfl, a2C, by rw [List.length_map]; exact small1000 (by omega), ?_⟩⟩
              have keep : ∀ b u, HC b = some u → b ≠ l → (upd HC l (.lst (zs.map V.int ++ [.int m0]))) b = some u := fun b u e n => by rw [upd_ne n]; exact e
              refine ⟨_, rfl, fun b u e n => keep _ _ ((oA.trans (Off.of sC)) _ _ e n) (ne_of_none e a4), keep _ _ hpC (ne_of hpC a2C (fun z => nomatch z)), keep _ _ hbC (ne_of hbC a2C (fun z => nomatch z)), keep _ _ hDC (ne_of hDC a2C (fun z => nomatch z)), fun n hn => ?_⟩
              by_cases cn : n = n0
              · subst cn
                refine ⟨l, zs ++ [m0], a1, by rw [List.map_append]; exact upd_same, by rw [List.length_append, List.length_singleton]; omega, a4, fun m => ?_, ?_⟩
                rotate_left
                · rw [List.nodup_append]
                  refine ⟨a6, by simp, fun x hx y hy => ?_⟩
                  rw [List.mem_singleton.mp hy]
                  intro e
                  have hx1 := ((a5 x).mp hx).1
                  rw [e, show snapK n m0 = k from ek2.symm] at hx1
                  have nd1 : ((kvs.take (i + 1)).map (·.1)).Nodup := by
                    rw [List.map_take]; exact hBT.nd.sublist (List.take_sublist _ _)
                  rw [tkA, List.nodup_append] at nd1
                  exact nd1.2.2 k hx1 k (by simp) rfl
                rw [List.mem_append, a5, tkA, List.mem_append]
                constructor
                · rintro (⟨z1, z2⟩ | z)
                  · exact ⟨.inl z1, z2⟩
                  · rw [List.mem_singleton.mp z]
                    exact ⟨.inr (by rw [ek2]; exact List.mem_singleton.mpr rfl), by unfold SnapEx; rw [show snapK n m0 = k from ek2.symm]; exact hsh⟩
                · rintro ⟨z1 | z1, z2⟩
                  · exact .inl ⟨z1, z2⟩
                  · have e := List.mem_singleton.mp z1
                    rw [ek2] at e
                    have : m = m0 := by
                      have e3 : (Sum.inl m : Key) = .inl m0 := by
                        injection e with _ e; injection e with _ e; injection e
                      exact Sum.inl.inj e3
                    exact .inr (by rw [this]; simp)
              · obtain ⟨l', zs', b1, b2, b3, b4, b5, b6⟩ := snA n hn
                have nll : l' ≠ l := fun e => cn (inj n n0 l (by rw [← e]; exact b1) a1)
                refine ⟨l', zs', b1, keep _ _ (sC _ _ b2) nll, by omega, b4, fun m => ?_, b6⟩
                rw [b5, tkA, List.mem_append]
                constructor
                · rintro ⟨z1, z2⟩; exact ⟨.inl z1, z2⟩
                · rintro ⟨z1 | z1, z2⟩
                  · exact ⟨z1, z2⟩
                  · have e := List.mem_singleton.mp z1
                    rw [ek2] at e
                    have e3 : (Sum.inl n : Key) = .inl n0 := by
                      injection e with _ e; injection e
                    exact absurd (Sum.inl.inj e3) cn
          · rw [str_eqF cw]
            refine iteF ⟨_, rfl, oA, hpA, hbA, hDA, stay (fun n m e => ?_) HB (Same.refl HB)⟩
            rw [e] at hww
            exact absurd hww.symm cw
        · rintro σ' HA ⟨v3, rfl, oA, hpA, hbA, hDA, snA⟩
          refine ⟨hbA, ?_⟩
          have keep : ∀ b u, HA b = some u → b ≠ bt → (upd HA bt (.dT kvs)) b = some u := fun b u e n => by rw [upd_ne n]; exact e
          have oE : Off [p, bt] H6 (upd HA bt (.dT kvs)) := fun b u e n => keep _ _ (oA _ _ e n) fun z => n (by simp [z])
          have tkE := tk_off2 oE L6.p L6.tb.d
          have hE : (upd HA bt (.dT kvs)) bt = some (.dT kvs) := upd_same
          have bmm : ∀ b u, H6 b = some u → b ≠ p → b ≠ bt → (upd HA bt (.dT kvs)) b = some u := fun b u e n1 n2 => oE _ _ e fun m => by
            rcases List.mem_cons.mp m with z | m
            · exact n1 z
            · exact n2 (List.mem_singleton.mp m)
          refine q rs _ (fun b u e n => bmm _ _ (L6.o _ _ e n) (by simpa using n) (ne_of_none e hbt0)) ⟨dx, ol, ts, bt, bg, D, kvs, bks, sks, keep _ _ hpA (fun e => nbtp e.symm), hBT.off oE L6.p L6.tb.d (.inl hE) hg, bmm _ _ L6.l nolp (ne_of L6.l L6.tb.d (fun z => nomatch z)), paired_rtk tkE hg L6.pr, bmm _ _ L6.g (fun e => nbgp2 e.symm) (ne_of L6.g L6.tb.d (fun z => nomatch z)), L6.gv, keep _ _ hDA nDbt, ⟨fun n hn => ?_, no8⟩⟩ asc mem rl
          obtain ⟨l, zs, a1, a2, a3, a4, a5, a6⟩ := snA n hn
          have ln3 := hBT.ln
          refine ⟨l, zs, a1, keep _ _ a2 (fun e => by rw [e, L6.tb.d] at a4; cases a4), by omega, fun m => ?_, a6⟩
          rw [a5, List.take_length]
          constructor
          · exact fun z => z.2
          · intro z
            refine ⟨hBT.mem.mpr fun e => ?_, z⟩
            unfold SnapEx shownB at z
            have e2 : lastShown rs (snapK n m) (presentO rs) = none := by
              unfold lastShown
              rw [e]; rfl
            rw [e2] at z; cases z
end
end Sg

set_option Elab.async false
set_option linter.all false
set_option maxRecDepth 100000
set_option maxHeartbeats 4000000
namespace Sg
open PySem PySem.Spec PyProof.Rows L2
/-! ### what the program takes for live of a topic -/
def ViewN (rs : List Rc) (k : List Key) (m : Int) : Prop := m = presentO rs ∨ (word k = "place" ∧ SnapEx rs (spaceK k) m)
def spViews (K : PySem.W.Frag) (C : Addr) : Sp := fun vs H Q _ => ∃ (p tt : Addr) (rs : List Rc) (k : List Key), vs = [.ref p, .ref tt] ∧ RA K C H p rs ∧ KeyAt H tt k ∧ TForm k ∧
  ∀ (l : Addr) (zs : List Int) (H' : Hp), Same H H' → H' l = some (.lst (zs.map V.int)) → (∀ m, m ∈ zs ↔ ViewN rs k m) → zs.length ≤ 401 → Q (.ref l) H'
def firstO (rs : List Rc) (k : List Key) : Int := match (rowsF rs k).head? with
  | none => 0
  | some x => x.1
def lastF (rs : List Rc) (k : List Key) : Int := match (rowsF rs k).getLast? with
  | none => 0
  | some x => x.1
def LiveO (rs : List Rc) (k : List Key) (o : Int) : Prop :=
  if word k = "host" then o = lastF rs k else if word k = "gone" then o = lastF rs k ∧ ∃ b, begO rs (spaceK k) = some b ∧ b < o
  else ∃ m, ViewN rs k m ∧ ∃ x, lastShown rs k m = some x ∧ x.1 = o ∧ (noneQ x.2 = false ∨ x.1 ≠ firstO rs k)
def spLiveOrd (K : PySem.W.Frag) (C : Addr) : Sp := fun vs H Q _ => ∃ (p tt : Addr) (rs : List Rc) (k : List Key), vs = [.ref p, .ref tt] ∧ RA K C H p rs ∧ KeyAt H tt k ∧ TForm k ∧ rowsF rs k ≠ [] ∧ rs.length ≤ 100 ∧ (∀ r ∈ rs, RGood r) ∧
  ∀ (l : Addr) (zs : List Int) (H' : Hp), Same H H' → H' l = some (.lst (zs.map V.int)) → (∀ o, o ∈ zs ↔ LiveO rs k o) → zs.length ≤ 401 → Q (.ref l) H'
def sharedB (rs : List Rc) (k : List Key) : Prop := ∃ x, lastShown rs k (presentO rs) = some x ∧ noneQ x.2 = false ∧ ∃ m, SnapEx rs (spaceK k) m ∧ x.1 < m
def spIsShared (K : PySem.W.Frag) (C : Addr) : Sp := fun vs H Q _ => ∃ (p tt : Addr) (rs : List Rc) (k : List Key), vs = [.ref p, .ref tt] ∧ RA K C H p rs ∧ KeyAt H tt k ∧ TForm k ∧ rs.length ≤ 100 ∧
  ∀ b H', Same H H' → (b = true ↔ sharedB rs k) → Q (.bl b) H'
theorem gone_beg {rs : List Rc} {k : List Key} {n : Int} (h : rowsF rs k ≠ []) (hk : ∃ s, k = .inr "gone" :: .inl n :: s) : begO rs n ≠ none := fun hn => by
  obtain ⟨s, ek⟩ := hk
  obtain ⟨r, hr, e, he, hke⟩ := rowsF_ex.mp h
  have := begO_none.mp hn r hr
  rw [member_of he (hke.trans ek) (by decide) (by decide)] at this; cases this
section
variable {P : Program} {wd : World} {K : PySem.W.Frag} {mg : Str → Option Value} {base : Heap} {f fA fB fL fS fV C : Addr} {fd fdA fdB fdL fdS fdV : FuncData}
theorem scViews : FnScope ["rows", "topic"] ["rows", "topic"] (defScope sViews) := ⟨rfl, rfl, rfl, by decide +kernel, rfl, by decide +kernel, by decide +kernel⟩
theorem ok_views (F : Fun K "_views" "_views" sViews f fd) (T : CT K mg C) (MS : Mth P wd K mg base CX0 C "snapshots" 1 ["self", "namespace"] (spSnaps K C) fS fdS) : FnOk P wd K mg base CX0 2 f fd ["rows", "topic"] (spViews K C) := by
  refine F.ok scViews (fun vs H Q E h => ?_) (fun cdv A outer s H vs Q E hr h => ?_)
  · obtain ⟨p, tt, rs, k, rfl, _⟩ := h
    rfl
  · obtain ⟨p, tt, rs, k, rfl, hra, hk, ⟨kw, kn, kr, ek⟩, q⟩ := h
    refine ⟨_, (pss_cons (ps_if (pt_cmpR op_eq (pe_ix ix_tup (pv 1) pe_int (fun _ _ => rfl)) pe_str (nomark _))
      (pss_one (ps_ret (pe_lst (pa_cons (pe_fld (pv 0) rfl) (StX.pa_star (pe_meth (pv 0) T.cl MS.me MS.ok hr MS.bd .nil pass0 (pa_cons (pe_ix ix_tup (pv 1) pe_int (fun _ _ => rfl)) pa_nil)) pa_nil))))) pss_nil)
      (pss_one (ps_ret (pe_lst (pa_cons (pe_fld (pv 0) rfl) pa_nil))))), ?_⟩
    have hww : word k = kw := by rw [ek]; rfl
    have hss : spaceK k = kn := by rw [ek]; rfl
    have hk' : H tt = some (.tup (V.str kw :: V.int kn :: kr.map kV)) := by
      have z : H tt = some (.tup (k.map kV)) := hk
      rw [ek] at z; exact z
    obtain ⟨dx, ol, ts, bt, bg, sn, kvs, bks, sks, hp, _⟩ := id hra
    refine ⟨_, rfl, tt, _, _, _, rfl, rfl, SqT.of hk', atI_nat (j := 0) rfl, rfl, _, rfl, ?_⟩
    by_cases cw : kw = "place"
    · rw [cw, str_eqT]
      refine iteT ⟨_, rfl, p, C, _, _, _, rfl, hp, T.cl, T.k_pr, rf_pr, _, rfl, p, _, _, rfl, hp, rf_no (by decide) (by decide) (by decide) (by decide) (by decide), _, rfl, tt, _, _, _, rfl, rfl, SqT.of hk', atI_nat (j := 1) rfl, p, rs, kn, rfl, hra, fun l zs H1 s1 hl hm hz _ _ => ⟨l, _, rfl, .inr (SqL.of hl), ?_⟩⟩
      refine nil_ ⟨by show (_ :: (zs.map V.int ++ [])).length ≤ 16777216; rw [List.length_cons, List.length_append, List.length_map]; simp only [List.length_nil]; omega, fun D hD => ?_⟩
      refine q D (presentO rs :: zs) _ (s1.trans (same_new hD)) (by rw [upd_same, List.append_nil]; rfl) (fun m => ?_) (by rw [List.length_cons]; omega)
      unfold ViewN
      rw [hww, hss, List.mem_cons, hm]
      constructor
      · rintro (z | z)
        · exact .inl z
        · exact .inr ⟨cw, z⟩
      · rintro (z | ⟨_, z⟩)
        · exact .inl z
        · exact .inr z
    · rw [str_eqF cw]
      refine iteF ⟨_, rfl, p, C, _, _, _, rfl, hp, T.cl, T.k_pr, rf_pr, nil_ ⟨by show 1 ≤ sizeLine; decide, fun D hD => ?_⟩⟩
      refine q D [presentO rs] _ (same_new hD) upd_same (fun m => ?_) (by simp)
      unfold ViewN
      rw [hww, List.mem_singleton]
      constructor
      · exact .inl
      · rintro (z | ⟨z, _⟩)
        · exact z
        · exact absurd z cw
/-- what is shown, in the heap -/
theorem shown_at {K : PySem.W.Frag} {H H' : Hp} {v : V} {o : Option Rw} (h : ShownV K H v o) (s : Same H H') : ShownV K H' v o := by
  cases o with
  | none => exact h
  | some x =>
    obtain ⟨p, e, a⟩ := h
    exact ⟨p, e, a.same s⟩
end
end Sg

set_option Elab.async false
set_option linter.all false
set_option maxRecDepth 100000
set_option maxHeartbeats 4000000
namespace Sg
open PySem PySem.Spec PyProof.Rows L2
/-! ### the orders that are live of a topic, in the program -/
theorem shown_mem {rs : List Rc} {k : List Key} {m : Int} {x : Rw} (h : lastShown rs k m = some x) : x ∈ rowsF rs k := by
  unfold lastShown at h
  split at h
  · cases h
  · rename_i y hy
    split at h
    · cases h
    · cases h
      exact (List.mem_filter.mp (List.mem_of_getLast? hy)).1
theorem rowsF_t {rs : List Rc} {k : List Key} (hg : ∀ r ∈ rs, RGood r) : ∀ x ∈ rowsF rs k, tupO x.2 = true := by
  intro x hx
  obtain ⟨l0, hl0, hx⟩ := List.mem_flatten.mp hx
  obtain ⟨r, hr, rfl⟩ := List.mem_map.mp hl0
  exact rowsE_t (effR_t (hg r hr)) x hx
theorem shown_tk {K : PySem.W.Frag} {H H' : Hp} (s : TK H H') {rs : List Rc} {k : List Key} (hg : ∀ r ∈ rs, RGood r) : ∀ {vs : List V} {zs : List Int}, Paired (ShownV K H) vs (zs.map (lastShown rs k)) → Paired (ShownV K H') vs (zs.map (lastShown rs k)) := by
  intro vs zs
  induction zs generalizing vs with
  | nil => intro h; cases h; exact .nil
  | cons z zs ih =>
    intro h
    rw [List.map_cons] at h ⊢
    cases h with
    | cons a b =>
      refine .cons ?_ (ih b)
      cases hl : lastShown rs k z with
      | none => rw [hl] at a; exact a
      | some x =>
        rw [hl] at a
        obtain ⟨p, e, r⟩ := a
        exact ⟨p, e, r.tk (rowsF_t hg x (shown_mem hl)) s⟩
def pickO (f : Int) : Option Rw → Option Int
  | none => none
  | some x => if noneQ x.2 = false ∨ x.1 ≠ f then some x.1 else none
section
variable {P : Program} {wd : World} {K : PySem.W.Frag} {mg : Str → Option Value} {base : Heap} {f fA fB fL fS fV C : Addr} {fd fdA fdB fdL fdS fdV : FuncData}
theorem scLiveOrd : FnScope ["rows", "topic", "all_rows", "first", "_", "last", "shown", "number", "row"] ["rows", "topic"] (defScope sLiveOrd) := ⟨rfl, rfl, rfl, by decide +kernel, rfl, by decide +kernel, by decide +kernel⟩
theorem ok_liveOrd (F : Fun K "_live_orders" "_live_orders" sLiveOrd f fd) (T : CT K mg C) (MA : Mth P wd K mg base CX0 C "all_of" 1 ["self", "topic"] (spAllOf K C) fA fdA) (MB : Mth P wd K mg base CX0 C "begins" 1 ["self", "namespace"] (spBegins K C) fB fdB) (ML : Mth P wd K mg base CX0 C "last_shown" 2 ["self", "topic", "number"] (spLastShown K C) fL fdL) (GV : Def P wd K mg base CX0 "_views" 2 ["rows", "topic"] (spViews K C) fV fdV) : FnOk P wd K mg base CX0 3 f fd ["rows", "topic"] (spLiveOrd K C) := by
  refine F.ok scLiveOrd (fun vs H Q E h => ?_) (fun cdv A outer s H vs Q E hr h => ?_)
  · obtain ⟨p, tt, rs, k, rfl, _⟩ := h
    rfl
  · obtain ⟨p, tt, rs, k, rfl, hra, hk, hf, hne, hn, hg, q⟩ := h
    have hr1 : Room 1 _ := hr.mono (by decide)
    refine ⟨_, (pss_cons (ps_set (i := 2) scLiveOrd.nd rfl (Or.inl rfl) (pe_meth (pv 0) T.cl MA.me MA.ok hr1 MA.bd .nil pass0 (pa_cons (pv 1) pa_nil)))
      (pss_cons (ps_asg (pe_ix ix_list (pv 2) pe_int (fun _ _ => rfl)) (pg_tup (by rfl) (pgs_cons (pg_name (i := 3) scLiveOrd.nd rfl (Or.inr rfl)) (pgs_cons (pg_name (i := 4) scLiveOrd.nd rfl (Or.inl rfl)) L2.pgs_nil))))
      (pss_cons (ps_asg (pe_ix ix_list (pv 2) (pe_un un_neg pe_int) (fun _ _ => rfl)) (pg_tup (by rfl) (pgs_cons (pg_name (i := 5) scLiveOrd.nd rfl (Or.inl rfl)) (pgs_cons (pg_name (i := 4) scLiveOrd.nd rfl (Or.inl rfl)) L2.pgs_nil))))
      (pss_cons (ps_if (pt_cmpR op_eq (pe_ix ix_tup (pv 1) pe_int (fun _ _ => rfl)) pe_str (nomark _))
      (pss_one (ps_ret (pe_lst (pa_cons (pv 5) pa_nil)))) pss_nil)
      (pss_cons (ps_if (pt_cmpR op_eq (pe_ix ix_tup (pv 1) pe_int (fun _ _ => rfl)) pe_str (nomark _))
      (pss_one (ps_ret (pe_ifExp (pt_cmpR op_lt (pe_meth (pv 0) T.cl MB.me MB.ok hr1 MB.bd .nil pass0 (pa_cons (pe_ix ix_tup (pv 1) pe_int (fun _ _ => rfl)) pa_nil)) (pv 5) (nomark _)) (pe_lst (pa_cons (pv 5) pa_nil)) (pe_lst pa_nil)))) pss_nil)
      (pss_cons (ps_setLc (i := 6) (own := [("number", 7)]) (g := gName 7) (tt := tYes) (te := (tMeth C "last_shown" (spLastShown K C) [] E0 (tVar 0) (tCons (tVar 1) (tCons (tVar 7) tNil)))) (by rfl) scLiveOrd.nd rfl rfl (sw_true rfl rfl rfl (by decide +kernel)) (pi_list (pe_call GV.ok hr (by rfl) GV.mg GV.kp GV.bd .nil pass0 (pa_cons (pv 0) (pa_cons (pv 1) pa_nil)))) (blkOk_by (own := [("number", 7)]) (N := ["rows", "topic", "all_rows", "first", "_", "last", "shown", "number", "row"]) (sc := defScope sLiveOrd) (by decide +kernel)) (fun _ _ _ _ _ => pg_name (i := 7) scLiveOrd.nd rfl (Or.inl rfl)) (fun _ _ _ _ _ => pts_nil) (fun _ _ _ _ _ => by exact (pe_meth (pv 0) T.cl ML.me ML.ok hr ML.bd .nil pass0 (pa_cons (pv 1) (pa_cons (pv 7) pa_nil)))))
      (pss_one (ps_ret (pe_lc (own := [("row", 8)]) (g := gName 8) (tt := (tAnd (tTest (tOp (fun x y H Q => y = V.non ∧ Q (V.bl !decide (x = V.non)) H) (tVar 8) (tC .non))) (tOr (tTest (tOp (fun x y H Q => y = V.non ∧ Q (V.bl !decide (x = V.non)) H) (tOp (rIxT K) (tVar 8) (tC (.int 1))) (tC .non))) (tTest (tOp rNe (tOp (rIxT K) (tVar 8) (tC (.int 0))) (tVar 3)))))) (te := (tOp (rIxT K) (tVar 8) (tC (.int 0)))) (by rfl) scLiveOrd.nd (pi_list (pv 6)) (blkOk_by (own := [("row", 8)]) (N := ["rows", "topic", "all_rows", "first", "_", "last", "shown", "number", "row"]) (sc := defScope sLiveOrd) (by decide +kernel)) (fun _ _ _ _ _ => pg_name (i := 8) scLiveOrd.nd rfl (Or.inl rfl)) (fun _ _ _ _ _ => pts_one (PW.pt (pw_and (pt_cmpR op_notN (pv 8) pe_non (nomark _)) (pw_and1 (PW.pt (pw_or (pt_cmpR op_notN (pe_ix ix_tup (pv 8) pe_int (fun _ _ => rfl)) pe_non (nomark _)) (pw_or1 (pt_cmpR op_ne (pe_ix ix_tup (pv 8) pe_int (fun _ _ => rfl)) (pv 3) (nomark _))))))))) (fun _ _ _ _ _ => by exact (pe_ix ix_tup (pv 8) pe_int (fun _ _ => rfl)))))))))))), ?_⟩
    obtain ⟨kw, kn, kr, ek⟩ := id hf
    have hww : word k = kw := by rw [ek]; rfl
    have hss : spaceK k = kn := by rw [ek]; rfl
    have hk' : H tt = some (.tup (V.str kw :: V.int kn :: kr.map kV)) := by
      have z : H tt = some (.tup (k.map kV)) := hk
      rw [ek] at z; exact z
    obtain ⟨dx, ol, ts, bt, bg, sn, kvs, bks, sks, hp, _⟩ := id hra
    refine ⟨_, rfl, p, _, _, rfl, hp, rf_no (by decide) (by decide) (by decide) (by decide) (by decide), _, rfl, p, tt, rs, k, rfl, hra.ro, hk, fun l ps H1 s1 hl pr => ?_⟩
    obtain ⟨x0, xs0, e0⟩ := List.exists_cons_of_ne_nil hne
    obtain ⟨p0, ps0, ep0, r0⟩ : ∃ p0 ps0, ps = p0 :: ps0 ∧ RowAt K H1 p0 x0 := by
      rw [e0] at pr
      cases pr with
      | cons a b => exact ⟨_, _, rfl, a⟩
    obtain ⟨xs1, xl, e1⟩ : ∃ xs1 xl, rowsF rs k = xs1 ++ [xl] := by
      rcases List.eq_nil_or_concat (rowsF rs k) with e | ⟨xs, x, e⟩
      · exact absurd e hne
      · exact ⟨xs, x, by rw [e, List.concat_eq_append]⟩
    obtain ⟨qs, pl, epl, rl⟩ := paired_last (xs := xs1) (x := xl) (by rw [← e1]; exact pr)
    obtain ⟨v0, a0, _⟩ := id r0
    obtain ⟨vl, al, _⟩ := id rl
    have hl0 : H1 l = some (.lst (V.ref p0 :: ps0.map V.ref)) := by rw [hl, ep0]; rfl
    have hl1 : H1 l = some (.lst (qs.map V.ref ++ [V.ref pl])) := by rw [hl, epl, List.map_append]; rfl
    have hfirst : firstO rs k = x0.1 := by unfold firstO; rw [e0]; rfl
    have hlast : lastF rs k = xl.1 := by unfold lastF; rw [e1, List.getLast?_concat]
    have live : ∀ o, LiveO rs k o ↔ if kw = "host" then o = xl.1 else if kw = "gone" then o = xl.1 ∧ ∃ b, begO rs kn = some b ∧ b < o else ∃ m, ViewN rs k m ∧ ∃ x, lastShown rs k m = some x ∧ x.1 = o ∧ (noneQ x.2 = false ∨ x.1 ≠ x0.1) := fun o => by
      unfold LiveO
      rw [hww, hss, hfirst, hlast]
    refine ⟨_, rfl, l, _, _, V.ref p0, rfl, rfl, SqL.of hl0, atI_nat (j := 0) rfl, p0, _, rfl, SqT.of a0, rfl, _, _, rfl, _, _, rfl, rfl, ?_⟩
    refine ⟨_, rfl, 1, rfl, l, _, _, V.ref pl, rfl, rfl, SqL.of hl1, atI_last _ _, pl, _, rfl, SqT.of al, rfl, _, _, rfl, _, _, rfl, rfl, ?_⟩
    have hk1 := s1 _ _ hk'
    refine ⟨_, rfl, tt, _, _, _, rfl, rfl, SqT.of hk1, atI_nat (j := 0) rfl, rfl, _, rfl, ?_⟩
    by_cases ch : kw = "host"
    · rw [ch, str_eqT]
      refine iteT ⟨_, rfl, nil_ ⟨by show 1 ≤ sizeLine; decide, fun D hD => ?_⟩⟩
      refine q D [xl.1] _ (s1.trans (same_new hD)) upd_same (fun o => ?_) (by simp)
      rw [live, if_pos ch, List.mem_singleton]
    · rw [str_eqF ch]
      refine iteF ⟨_, rfl, tt, _, _, _, rfl, rfl, SqT.of hk1, atI_nat (j := 0) rfl, rfl, _, rfl, ?_⟩
      by_cases cg : kw = "gone"
      · rw [cg, str_eqT]
        obtain ⟨b, hb⟩ : ∃ b, begO rs kn = some b := Option.ne_none_iff_exists'.mp (gone_beg hne ⟨kr, by rw [ek, cg]⟩)
        refine iteT ⟨_, rfl, p, _, _, rfl, s1 _ _ hp, rf_no (by decide) (by decide) (by decide) (by decide) (by decide), _, rfl, tt, _, _, _, rfl, rfl, SqT.of hk1, atI_nat (j := 1) rfl, p, rs, kn, b, rfl, hra.same s1, hb, _, rfl, _, _, rfl, rfl, _, rfl, ?_⟩
        cases cb : decide (b < xl.1) with
        | true =>
          refine iteT ⟨_, rfl, nil_ ⟨by show 1 ≤ sizeLine; decide, fun D hD => ?_⟩⟩
          refine q D [xl.1] _ (s1.trans (same_new hD)) upd_same (fun o => ?_) (by simp)
          rw [live, if_neg ch, if_pos cg, List.mem_singleton]
          constructor
          · intro e; exact ⟨e, b, hb, by rw [e]; exact of_decide_eq_true cb⟩
          · exact fun z => z.1
        | false =>
          refine iteF ⟨by show 0 ≤ sizeLine; decide, fun D hD => ?_⟩
          refine q D [] _ (s1.trans (same_new hD)) upd_same (fun o => ?_) (by simp)
          rw [live, if_neg ch, if_pos cg]
          constructor
          · exact fun z => nomatch z
          · rintro ⟨e, b', hb', lt⟩
            rw [hb] at hb'; cases hb'
            rw [e] at lt
            exact absurd lt (of_decide_eq_false cb)
      · rw [str_eqF cg]
        refine iteF ⟨_, rfl, _, rfl, p, tt, rs, k, rfl, hra.same s1, s1 _ _ hk, hf, fun lv zs H2 s2 hlv hzm hzl => ⟨lv, rfl, ⟨_, SqL.of hlv⟩, fun D hD => ?_⟩⟩
        have s12 := s1.trans s2
        refine lc_list (K := K) (a := lv) (xs := zs.map V.int) (fun i H' => Same H2 H' ∧ ∃ vs, H' D = some (.lst vs) ∧ Paired (ShownV K H') vs ((zs.take i).map (lastShown rs k))) ⟨same_new hD, [], upd_same, .nil⟩ (fun i H' _ ⟨sm, _⟩ => SqL.of (sm _ _ hlv)) ?_ ?_
        · rintro i x H' hx ⟨sm, vs, hDv, pv⟩
          obtain ⟨m, hmi, rfl⟩ := map_get hx
          have hil := (List.getElem?_eq_some_iff.mp hmi).1
          have tkz : zs.take (i + 1) = zs.take i ++ [m] := by rw [List.take_add_one, hmi]; rfl
          have s3 := s12.trans sm
          refine ⟨rfl, yesIte ⟨_, rfl, p, _, _, rfl, s3 _ _ hp, rf_no (by decide) (by decide) (by decide) (by decide) (by decide), _, rfl, _, rfl, p, tt, rs, k, m, rfl, hra.ro.same s3, s3 _ _ hk, hf, hn, fun v H3 s34 hv => ?_⟩⟩
          have hD3 := s34 _ _ hDv
          have tk := tk_lst (xs' := vs ++ [v]) hD3
          have vl := pv.length
          rw [List.length_map, List.length_take] at vl
          refine ⟨vs, hD3, small1000 (by omega), fun b u e => ?_, _, upd_same, ?_⟩
          · rw [upd_ne (ne_of_none e hD)]; exact s34 _ _ (sm _ _ e)
          · rw [tkz]
            refine shown_tk tk hg ?_
            rw [List.map_append]
            exact paired_append (Paired.imp2 (fun _ _ z => shown_at z s34) pv) (.cons hv .nil)
        · rintro H3 ⟨sm, vs, hDv, pv⟩
          rw [List.length_map, List.take_length] at pv
          have vl := pv.length
          rw [List.length_map] at vl
          have s3 := s12.trans sm
          refine ⟨_, rfl, D, rfl, ⟨_, SqL.of hDv⟩, fun D2 hD2 => ?_⟩
          refine lc_list (K := K) (a := D) (xs := vs) (fun i H' => Same H3 H' ∧ H' D2 = some (.lst ((((zs.take i).map (lastShown rs k)).filterMap (pickO x0.1)).map V.int))) ⟨same_new hD2, upd_same⟩ (fun i H' _ ⟨sm', _⟩ => SqL.of (sm' _ _ hDv)) ?_ ?_
          · rintro i v H' hx ⟨sm', hD2'⟩
            obtain ⟨ox, hox, hsv⟩ := paired_at pv hx
            have hil := (List.getElem?_eq_some_iff.mp hx).1
            have tkm : (zs.take (i + 1)).map (lastShown rs k) = (zs.take i).map (lastShown rs k) ++ [ox] := by
              rw [List.map_take, List.map_take, List.take_add_one, hox]; rfl
            have skip : pickO x0.1 ox = none → Same H3 H' ∧ H' D2 = some (.lst ((((zs.take (i + 1)).map (lastShown rs k)).filterMap (pickO x0.1)).map V.int)) := fun e => by
              refine ⟨sm', ?_⟩
              rw [tkm, List.filterMap_append, List.filterMap_cons, e, List.filterMap_nil, List.append_nil]
              exact hD2'
            have alen : ((((zs.take i).map (lastShown rs k)).filterMap (pickO x0.1)).map V.int).length ≤ i := by
              rw [List.length_map]
              refine Nat.le_trans (List.length_filterMap_le _ _) ?_
              rw [List.length_map, List.length_take]; omega
            refine ⟨rfl, _, rfl, rfl, _, rfl, ?_⟩
            cases ox with
            | none =>
              obtain rfl : v = .non := hsv
              exact iteF (skip rfl)
            | some x =>
              obtain ⟨pr', rfl, v1, b1, b2⟩ := hsv
              have b1' := sm' _ _ b1
              have take : pickO x0.1 (some x) = some x.1 → ∃ acc, H' D2 = some (.lst acc) ∧ acc.length < sizeLine ∧ (Same H3 (upd H' D2 (.lst (acc ++ [.int x.1]))) ∧ (upd H' D2 (.lst (acc ++ [.int x.1]))) D2 = some (.lst ((((zs.take (i + 1)).map (lastShown rs k)).filterMap (pickO x0.1)).map V.int))) := fun e => by
                refine ⟨_, hD2', small1000 (by omega), fun b u z => by rw [upd_ne (ne_of_none z hD2)]; exact sm' _ _ z, ?_⟩
                rw [upd_same, tkm, List.filterMap_append, List.filterMap_cons, e, List.filterMap_nil, List.map_append]; rfl
              refine iteT ⟨_, rfl, pr', _, _, _, rfl, rfl, SqT.of b1', atI_nat (j := 1) rfl, rfl, _, rfl, ?_⟩
              rw [dp_noneQ b2]
              cases hq : noneQ x.2 with
              | false => exact iteT (iteT ⟨_, rfl, pr', _, _, _, rfl, rfl, SqT.of b1', atI_nat (j := 0) rfl, take (if_pos (.inl hq))⟩)
              | true =>
                refine iteF ⟨_, rfl, pr', _, _, _, rfl, rfl, SqT.of b1', atI_nat (j := 0) rfl, _, rfl, rfl, _, rfl, ?_⟩
                rw [int_dec]
                by_cases c : x.1 = x0.1
                · rw [decide_eq_true c]
                  exact iteF (skip (if_neg (fun z => by rcases z with z | z; rw [hq] at z; cases z; exact z c)))
                · rw [decide_eq_false c]
                  exact iteT ⟨_, rfl, pr', _, _, _, rfl, rfl, SqT.of b1', atI_nat (j := 0) rfl, take (if_pos (.inr c))⟩
          · rintro H4 ⟨sm', hD2'⟩
            rw [List.take_of_length_le (by omega)] at hD2'
            refine q D2 _ H4 (s3.trans sm') hD2' (fun o => ?_) ?_
            · rw [live, if_neg ch, if_neg cg, List.mem_filterMap]
              constructor
              · rintro ⟨ox, hox, e⟩
                obtain ⟨m, hm, e2⟩ := List.mem_map.mp hox
                cases ox with
                | none => cases e
                | some x =>
                  have e' : (if noneQ x.2 = false ∨ x.1 ≠ x0.1 then some x.1 else none) = some o := e
                  split at e'
                  · rename_i c
                    exact ⟨m, (hzm m).mp hm, x, e2, Option.some.inj e', c⟩
                  · cases e'
              · rintro ⟨m, hm, x, e2, e3, c⟩
                exact ⟨some x, List.mem_map.mpr ⟨m, (hzm m).mpr hm, e2⟩, by rw [← e3]; exact if_pos c⟩
            · refine Nat.le_trans (List.length_filterMap_le _ _) ?_
              rw [List.length_map]; exact hzl
end
end Sg

set_option Elab.async false
set_option linter.all false
set_option maxRecDepth 100000
set_option maxHeartbeats 4000000
namespace Sg
open PySem PySem.Spec PyProof.Rows L2
/-! ### the live records, the shared places -/
open Classical in
noncomputable def progL (rs : List Rc) : List Rc := rs.filter fun r => decide (∃ k, rowsF rs k ≠ [] ∧ LiveO rs k r.o)
def OnceP (rs : List Rc) : Prop := rs.length ≤ 100 ∧ (∀ r ∈ rs, RGood r) ∧ ∀ x ∈ rs, ∀ y ∈ rs, x.o = y.o → x = y
def spLiveRec (K : PySem.W.Frag) : Sp := fun vs H Q _ => ∃ (a : Addr) (ts : List Addr) (rs : List Rc), vs = [.ref a] ∧ SqL K H a (ts.map V.ref) ∧ Paired (RecAt K H) ts rs ∧ OnceP rs ∧
  ∀ l ts' rs' H', Same H H' → H l = Option.none → H' l = some (.lst (ts'.map V.ref)) → Paired (RecAt K H') ts' (progL rs') → rs'.Pairwise (fun x y => x.o < y.o) → (∀ r, r ∈ rs' ↔ r ∈ rs) → rs'.length ≤ 100 → Q (.ref l) H'
def prK (k : List Key) : IP := (spaceK k, thirdK k)
def ShK (rs : List Rc) (k : List Key) : Prop := word k = "place" ∧ sharedB rs k
open Classical in
noncomputable def shPl (rs : List Rc) (ks : Tops) : List IP := (ks.filter fun k => decide (ShK rs k)).map prK
def spSharedPl (K : PySem.W.Frag) : Sp := fun vs H Q _ => ∃ (a : Addr) (ts : List Addr) (rs : List Rc), vs = [.ref a] ∧ SqL K H a (ts.map V.ref) ∧ Paired (RecAt K H) ts rs ∧ OnceP rs ∧
  ∀ l ps ys ks rs' H', Same H H' → H l = Option.none → H' l = some (.lst (ps.map V.ref)) → Paired (PairAtT H') ps ys → ys.Perm (shPl rs' ks) → SrtP ys → ks.Nodup → (∀ k, k ∈ ks ↔ rowsF rs' k ≠ []) → rs'.Pairwise (fun x y => x.o < y.o) → (∀ r, r ∈ rs' ↔ r ∈ rs) → rs'.length ≤ 100 → Q (.ref l) H'
theorem same_of_off {H H' : Hp} {x : Addr} (o : Off [x] H H') (h : H x = Option.none) : Same H H' := fun b u e => o _ _ e (by simpa using ne_of_none e h)
theorem topF_form {rs : List Rc} {k : List Key} (h : rowsF rs k ≠ []) : TForm k ∧ KOk k ∧ SForm k := by
  obtain ⟨r, hr, e, he, hk⟩ := rowsF_ex.mp h
  rw [← hk]
  exact ⟨effR_form e he, effR_k e he, effR_s e he⟩
theorem effR_p {r : Rc} : ∀ e ∈ effR r, PForm e.1 := by
  intro e he
  rcases List.mem_cons.mp he with rfl | he
  · exact fun h => absurd h (wnp (w := "host") (r := [.inl r.h]) (by decide))
  · exact effB_p e he
theorem topF_p {rs : List Rc} {k : List Key} (h : rowsF rs k ≠ []) : PForm k := by
  obtain ⟨r, hr, e, he, hk⟩ := rowsF_ex.mp h
  rw [← hk]
  exact effR_p e he
section
variable {P : Program} {wd : World} {K : PySem.W.Frag} {mg : Str → Option Value} {base : Heap} {f fI fT fO fS C : Addr} {fd fdI fdT fdO fdS : FuncData}
theorem scLiveRec : FnScope ["records", "rows", "live", "topic", "order", "record"] ["records"] (defScope sLiveRecs) := ⟨rfl, rfl, rfl, by decide +kernel, rfl, by decide +kernel, by decide +kernel⟩
theorem ok_liveRec (F : Fun K "live_records" "live_records" sLiveRecs f fd) (T : CT K mg C) (MK : Mk K C fI) (GI : FnOk P wd K mg base CX0 4 fI fdI ["self", "records"] (spRInit K C)) (bI : Binds K fdI ["self", "records"] []) (MT : Mth P wd K mg base CX0 C "topics" 1 ["self"] (spTopics K C) fT fdT) (GO : Def P wd K mg base CX0 "_live_orders" 3 ["rows", "topic"] (spLiveOrd K C) fO fdO) : FnOk P wd K mg base CX0 6 f fd ["records"] (spLiveRec K) := by
  refine F.ok scLiveRec (fun vs H Q E h => ?_) (fun cdv A outer s H vs Q E hr h => ?_)
  · obtain ⟨a, ts, rs, rfl, _⟩ := h
    rfl
  · obtain ⟨a, ts, rs, rfl, ha, hpr, ⟨hn, hg, hu⟩, q⟩ := h
    have hr1 : Room 1 _ := hr.mono (by decide)
    have hr3 : Room 3 _ := hr.mono (by decide)
    refine ⟨_, (pss_cons (ps_set (i := 1) scLiveRec.nd rfl (Or.inl rfl) (pe_make MK GI hr (by rfl) T.gC bI .nil pass0 (pa_cons (pv 0) pa_nil)))
      (pss_cons (ps_set (i := 2) scLiveRec.nd rfl (Or.inr rfl) pe_dnewK)
      (pss_cons (ps_for PassesOwn.never rfl (pi_list (pe_meth0 (pv 1) T.cl MT.me MT.ok hr1 MT.bd .nil pass0)) (pg_name (i := 3) scLiveRec.nd rfl (Or.inl rfl))
      (pss_one (ps_for PassesOwn.never rfl (pi_list (pe_call GO.ok hr3 (by rfl) GO.mg GO.kp GO.bd .nil pass0 (pa_cons (pv 1) (pa_cons (pv 3) pa_nil)))) (pg_name (i := 4) scLiveRec.nd rfl (Or.inl rfl))
      (pss_one (ps_dput (hu_of hr) (pv 2) (pv 4) pe_bl rfl)))))
      (pss_one (ps_ret (pe_lc (own := [("record", 5)]) (g := gName 5) (tt := (tB (tDIn (tOp (rIxT K) (tVar 5) (tC (.int 0))) (tVar 2)))) (te := tVar 5) (by rfl) scLiveRec.nd (pi_list (pe_fld (pv 1) rfl)) (blkOk_by (own := [("record", 5)]) (N := ["records", "rows", "live", "topic", "order", "record"]) (sc := defScope sLiveRecs) (by decide +kernel)) (fun _ _ _ _ _ => pg_name (i := 5) scLiveRec.nd rfl (Or.inl rfl)) (fun _ _ _ _ _ => pts_one (pt_cmp (pc_din (hu_of hr) (pe_ix ix_tup (pv 5) pe_int (fun _ _ => rfl)) (pv 2)))) (fun _ _ _ _ _ => by exact (pv 5)))))))), ?_⟩
    refine ⟨_, rfl, fun x dx hx hdx ndx => ?_⟩
    have s1 : Same H (upd (upd H dx (.own x)) x (.ins C dx [])) := fun b u e => by
      rw [upd_ne (ne_of_none e hx), upd_ne (ne_of_none e hdx)]; exact e
    refine ⟨x, a, dx, ts, rs, rfl, upd_same, s1.seq ha, Paired.imp2 (fun _ _ z => z.same s1) hpr, hn, hg, hu, fun rs' H1 o1 hra asc mem len => ⟨rfl, ?_⟩⟩
    have s2 : Same H H1 := fun b u e => o1 _ _ (s1 _ _ e) (by simpa using ne_of_none e hx)
    have hg' : ∀ r ∈ rs', RGood r := fun r hr' => hg r ((mem r).mp hr')
    clear o1 s1
    refine fun d hd => ?_
    have s3 := same_new (o := .dK []) hd
    have hd2 : (upd H1 d (.dK [])) d = some (.dK []) := upd_same
    generalize upd H1 d (.dK []) = H2 at s3 hd2
    obtain ⟨dx', ol, ts', bt, bg, sn, kvs0, bks, sks, hp, hbt, hol, hrec, hrest⟩ := id hra
    refine ⟨_, rfl, x, _, _, rfl, s3 _ _ hp, rf_no (by decide) (by decide) (by decide) (by decide) (by decide), x, rs', rfl, hra.ro.same s3, fun lt bs ks H3 s34 hlt hlt3 hks nd kmem klen => ⟨lt, rfl, ⟨_, SqL.of hlt3⟩, ?_⟩⟩
    have klen' : ks.length ≤ 300 := by omega
    have bl := hks.length
    have ndlt : lt ≠ d := fun e => by rw [e, hd2] at hlt; cases hlt
    have s13 : Same H1 H3 := s3.trans s34
    have hd3 := s34 _ _ hd2
    refine for_list (K := K) (a := lt) (xs := bs.map V.ref) (fun i σ' H' => ∃ (v3 v4 v5 : Option V) (kvs : List (Key × V)), σ' = [some (.ref a), some (.ref x), some (.ref d), v3, v4, v5] ∧ Same H1 H' ∧ H' lt = some (.lst (bs.map V.ref)) ∧ Paired (KeyAt H') bs ks ∧ H' d = some (.dK kvs) ∧ kvs.length ≤ i * 401 ∧ ∀ o : Int, valV kvs (.inl o) ≠ none ↔ ∃ k ∈ ks.take i, LiveO rs' k o)
      ⟨_, _, _, [], rfl, s13, hlt3, hks, hd3, Nat.zero_le _, fun o => by simp [valV_nil]⟩ (fun i σ' H' _ ⟨_, _, _, _, _, _, hl', _⟩ => SqL.of hl') ?_ ?_
    · rintro i y σ' H4 hx' ⟨v3, v4, v5, kvs, rfl, s4, hlt4, hks4, hd4, kl, kv⟩
      obtain ⟨tt, hti, rfl⟩ := map_get hx'
      obtain ⟨k, hki, hk⟩ := paired_at hks4 hti
      have hil := (List.getElem?_eq_some_iff.mp hki).1
      have hkm := List.mem_of_getElem? hki
      have krow := (kmem k).mp hkm
      obtain ⟨kform, kok, _⟩ := topF_form krow
      have tkk : ks.take (i + 1) = ks.take i ++ [k] := by rw [List.take_add_one, hki]; rfl
      have hra4 := hra.same s4
      refine ⟨_, rfl, _, rfl, x, tt, rs', k, rfl, hra4, hk, kform, krow, len, hg', fun lo zs H5 s5 hlo hzm hzl => ⟨lo, rfl, ⟨_, SqL.of hlo⟩, ?_⟩⟩
      have hd5 := s5 _ _ hd4
      have nlo : lo ≠ d := ne_of hlo hd5 (fun z => nomatch z)
      refine for_list (K := K) (a := lo) (xs := zs.map V.int) (fun m σ' H' => ∃ (v4 : Option V) (kvs : List (Key × V)), σ' = [some (.ref a), some (.ref x), some (.ref d), some (.ref tt), v4, v5] ∧ Same H1 H' ∧ H' lo = some (.lst (zs.map V.int)) ∧ H' lt = some (.lst (bs.map V.ref)) ∧ Paired (KeyAt H') bs ks ∧ H' d = some (.dK kvs) ∧ kvs.length ≤ i * 401 + m ∧ ∀ o : Int, valV kvs (.inl o) ≠ none ↔ (∃ k ∈ ks.take i, LiveO rs' k o) ∨ o ∈ zs.take m)
        ⟨_, kvs, rfl, s4.trans s5, hlo, s5 _ _ hlt4, keys_same s5 hks4, hd5, by omega, fun o => by rw [kv]; simp⟩ (fun m σ' H' _ ⟨_, _, _, _, hl', _⟩ => SqL.of hl') ?_ ?_
      · rintro m y σ' H6 hy ⟨v4, kvs, rfl, s6, hlo6, hlt6, hks6, hd6, kl6, kv6⟩
        obtain ⟨o, hoi, rfl⟩ := map_get hy
        have hml := (List.getElem?_eq_some_iff.mp hoi).1
        have tkz : zs.take (m + 1) = zs.take m ++ [o] := by rw [List.take_add_one, hoi]; rfl
        have keep : ∀ kv' b u, H6 b = some u → b ≠ d → (upd H6 d (.dK kv')) b = some u := fun kv' b u e n => by rw [upd_ne n]; exact e
        refine ⟨_, rfl, _, rfl, d, _, rfl, DPut.k (k := Sum.inl o) hd6 ?_, ?_⟩
        · show _ < 16777216
          have : i * 401 ≤ 300 * 401 := Nat.mul_le_mul_right _ (by omega)
          omega
        · have tk := tk_dK (kvs' := putK kvs (.inl o) (.bl true)) hd6
          refine ⟨_, _, rfl, fun b u e => keep _ _ _ (s6 _ _ e) (ne_of_none e hd), keep _ _ _ hlo6 nlo, keep _ _ _ hlt6 ndlt, Paired.imp2 (fun _ _ z => tk.t _ _ z) hks6, upd_same, Nat.le_trans (length_putK _ _ _) (by omega), fun o' => ?_⟩
          rw [valV_put, tkz]
          by_cases c : o' = o
          · rw [if_pos (by rw [c])]
            exact ⟨fun _ => .inr (List.mem_append.mpr (.inr (by rw [c]; simp))), fun _ => by simp⟩
          · rw [if_neg (fun z => c (Sum.inl.inj z)), kv6]
            constructor
            · rintro (z | z)
              · exact .inl z
              · exact .inr (List.mem_append.mpr (.inl z))
            · rintro (z | z)
              · exact .inl z
              · rcases List.mem_append.mp z with z | z
                · exact .inr z
                · exact absurd (List.mem_singleton.mp z) c
      · rintro σ' H6 ⟨v4, kvs, rfl, s6, hlo6, hlt6, hks6, hd6, kl6, kv6⟩
        rw [List.length_map] at kl6 kv6
        rw [List.take_length] at kv6
        refine ⟨_, _, _, kvs, rfl, s6, hlt6, hks6, hd6, by rw [Nat.succ_mul]; omega, fun o => ?_⟩
        rw [kv6, hzm, tkk]
        constructor
        · rintro (⟨k', hk', z⟩ | z)
          · exact ⟨k', List.mem_append.mpr (.inl hk'), z⟩
          · exact ⟨k, List.mem_append.mpr (.inr (List.mem_singleton.mpr rfl)), z⟩
        · rintro ⟨k', hk', z⟩
          rcases List.mem_append.mp hk' with hk' | hk'
          · exact .inl ⟨k', hk', z⟩
          · rw [List.mem_singleton.mp hk'] at z; exact .inr z
    · rintro σ' H4 ⟨v3, v4, v5, kvs, rfl, s4, hlt4, hks4, hd4, kl, kv⟩
      rw [List.length_map, bl] at kl kv
      rw [List.take_length] at kv
      have hol4 := s4 _ _ hol
      have tl := hrec.length
      refine ⟨_, rfl, x, C, _, _, _, rfl, s4 _ _ hp, T.cl, T.k_or, rf_or, ol, rfl, ⟨_, SqL.of hol4⟩, fun D hD => ?_⟩
      have hdec : ∀ o : Int, (valV kvs (.inl o)).isSome = true ↔ ∃ k, rowsF rs' k ≠ [] ∧ LiveO rs' k o := fun o => by
        rw [Option.isSome_iff_ne_none, kv]
        exact ⟨fun ⟨k, a, b⟩ => ⟨k, (kmem k).mp a, b⟩, fun ⟨k, a, b⟩ => ⟨k, (kmem k).mpr a, b⟩⟩
      refine lc_filtB (rs'.map fun r => (valV kvs (.inl r.o)).isSome) (by rw [List.length_map, List.length_map, tl]) hD (SqL.of hol4) (fun _ => rfl) (by rw [List.length_map]; exact Nat.le_of_lt (small1000 (by omega))) (fun i' x' b H' Q' hx' hb' sm' kk' => ?_) (fun x' H' Q' hm' kk' => ⟨_, rfl, kk'⟩) fun H5 s5 hDl => ?_
      · obtain ⟨t', hti', rfl⟩ := map_get hx'
        obtain ⟨r', hri', hrt'⟩ := paired_at hrec hti'
        rw [List.getElem?_map, hri'] at hb'
        cases hb'
        dsimp only at kk'
        obtain ⟨ys', hts', _⟩ := hrt'.same (s4.trans sm')
        exact ⟨_, rfl, t', _, _, _, rfl, rfl, hts', atI_nat (j := 0) rfl, _, rfl, d, _, rfl, .inl ⟨kvs, .inl r'.o, .inl (sm' _ _ hd4), rfl, rfl⟩, _, rfl, kk' H' (Same.refl H')⟩
      · obtain ⟨ts1, e1, pr1⟩ := keepB_paired (p := fun r : Rc => (valV kvs (.inl r.o)).isSome) hrec
        rw [e1] at hDl
        have ef : rs'.filter (fun r => (valV kvs (.inl r.o)).isSome) = progL rs' := by
          unfold progL
          refine List.filter_congr fun r _ => ?_
          have z := hdec r.o
          by_cases c : (valV kvs (.inl r.o)).isSome = true
          · rw [c, @decide_eq_true _ (Classical.propDecidable _) (z.mp c)]
          · rw [Bool.not_eq_true] at c
            rw [c, @decide_eq_false _ (Classical.propDecidable _) (fun y => by have := z.mpr y; rw [c] at this; cases this)]
        rw [ef] at pr1
        have s15 := s4.trans s5
        exact q D ts1 rs' H5 (s2.trans s15) ((s2.trans s4).free hD) hDl (Paired.imp2 (fun _ _ z => z.same s15) pr1) asc mem len
end
end Sg

set_option Elab.async false
set_option linter.all false
set_option maxRecDepth 100000
set_option maxHeartbeats 4000000
namespace Sg
open PySem PySem.Spec PyProof.Rows L2
/-! ### core, need -/
def itP (g : List Rc → List Rc) : Nat → List Rc → List Rc
  | 0, x => x
  | n + 1, x => g (itP g n x)
theorem asc_inj {rs : List Rc} (h : rs.Pairwise (fun x y => x.o < y.o)) : ∀ x ∈ rs, ∀ y ∈ rs, x.o = y.o → x = y := by
  induction rs with
  | nil => intro x hx; cases hx
  | cons r rs ih =>
    rw [List.pairwise_cons] at h
    intro x hx y hy e
    rcases List.mem_cons.mp hx with e1 | h1 <;> rcases List.mem_cons.mp hy with e2 | h2
    · rw [e1, e2]
    · have := h.1 y h2; rw [← e1] at this; omega
    · have := h.1 x h1; rw [← e2] at this; omega
    · exact ih h.2 x h1 y h2 e
theorem asc_uniq {l m : List Rc} (hl : l.Pairwise (fun x y => x.o < y.o)) (hm : m.Pairwise (fun x y => x.o < y.o)) (h : ∀ r, r ∈ l ↔ r ∈ m) : l = m := by
  have n1 : l.Nodup := hl.imp fun h e => by rw [e] at h; omega
  have n2 : m.Nodup := hm.imp fun h e => by rw [e] at h; omega
  have p : l.Perm m := (List.perm_ext_iff_of_nodup n1 n2).mpr h
  exact List.Perm.eq_of_pairwise (fun a b _ _ h1 h2 => by omega) hl hm p
theorem progL_sub {rs : List Rc} : (progL rs).Sublist rs := List.filter_sublist
theorem progL_asc {rs : List Rc} (h : rs.Pairwise (fun x y => x.o < y.o)) : (progL rs).Pairwise (fun x y => x.o < y.o) := h.sublist progL_sub
theorem itP_sub {rs : List Rc} : ∀ n, (itP progL n rs).Sublist rs
  | 0 => List.Sublist.refl _
  | n + 1 => progL_sub.trans (itP_sub n)
theorem itP_asc {rs : List Rc} (h : rs.Pairwise (fun x y => x.o < y.o)) (n : Nat) : (itP progL n rs).Pairwise (fun x y => x.o < y.o) := h.sublist (itP_sub n)
theorem once_of {rs : List Rc} (h : rs.Pairwise (fun x y => x.o < y.o)) (hl : rs.length ≤ 100) (hg : ∀ r ∈ rs, RGood r) (n : Nat) : OnceP (itP progL n rs) :=
  ⟨Nat.le_trans (itP_sub n).length_le hl, fun r hr => hg r ((itP_sub n).subset hr), asc_inj (itP_asc h n)⟩
def spCore (K : PySem.W.Frag) : Sp := fun vs H Q _ => ∃ (a : Addr) (ts : List Addr) (rs : List Rc), vs = [.ref a] ∧ SqL K H a (ts.map V.ref) ∧ Paired (RecAt K H) ts rs ∧ OnceP rs ∧
  ∀ l ts' rs' n H', Same H H' → H l = Option.none → H' l = some (.lst (ts'.map V.ref)) → Paired (RecAt K H') ts' (itP progL n rs') → progL (itP progL n rs') = itP progL n rs' → rs'.Pairwise (fun x y => x.o < y.o) → (∀ r, r ∈ rs' ↔ r ∈ rs) → Q (.ref l) H'
def spNeed (K : PySem.W.Frag) : Sp := fun vs H Q _ => ∃ (a : Addr) (ts : List Addr) (rs : List Rc), vs = [.ref a] ∧ SqL K H a (ts.map V.ref) ∧ Paired (RecAt K H) ts rs ∧ OnceP rs ∧
  ∀ rs' n ks H', Same H H' → progL (itP progL n rs') = itP progL n rs' → rs'.Pairwise (fun x y => x.o < y.o) → (∀ r, r ∈ rs' ↔ r ∈ rs) → ks.Nodup → (∀ k, k ∈ ks ↔ rowsF rs' k ≠ []) → Q (.int (((itP progL n rs').length : Int) + ((shPl rs' ks).length : Int))) H'
def lenAt (σ : L2.St) (H : Hp) : Nat := match σ with
  | _ :: some (.ref l) :: _ => match H l with
    | some (.lst xs) => xs.length
    | _ => 0
  | _ => 0
theorem lenAt_eq {v : Option V} {l : Addr} {σ : L2.St} {H : Hp} {xs : List V} (h : H l = some (.lst xs)) : lenAt (v :: some (.ref l) :: σ) H = xs.length := by
  show (match H l with
    | some (.lst xs) => xs.length
    | _ => 0) = xs.length
  rw [h]
section
variable {P : Program} {wd : World} {K : PySem.W.Frag} {mg : Str → Option Value} {base : Heap} {f fO fL fC fS : Addr} {fd fdO fdL fdC fdS : FuncData}
end
end Sg

set_option Elab.async false
set_option linter.all false
set_option maxRecDepth 100000
set_option maxHeartbeats 4000000
namespace Sg
open PySem PySem.Spec PyProof.Rows L2
/-! ### what the program takes for live is what the law takes -/
theorem word_nh {r : Rc} {k : List Key} (hw : word k ≠ "host") : (effH r).1 ≠ k := fun e => hw (by rw [← e]; rfl)
theorem rowsE_cons {o : Int} {k : List Key} {e : Ef} {es : List Ef} : rowsE o k (e :: es) = (if e.1 = k then [(o, e.2)] else []) ++ rowsE o k es := by
  rw [← rowsE_one]
  unfold rowsE
  rw [← List.filterMap_append]; rfl
theorem rowsF_B {k : List Key} (hw : word k ≠ "host") {rs : List Rc} : rowsF rs k = rowsL rs k := by
  unfold rowsF rowsL
  congr 1
  refine List.map_congr_left fun r _ => ?_
  show rowsE r.o k (effH r :: effB r.o r.h r.b) = _
  rw [rowsE_cons, if_neg (word_nh hw), List.nil_append]
theorem rowsER_le {r : Rc} {k : List Key} : (rowsE r.o k (effR r)).length ≤ 1 := by
  show (rowsE r.o k (effH r :: effB r.o r.h r.b)).length ≤ 1
  rw [rowsE_cons]
  by_cases c : (effH r).1 = k
  · have : rowsE r.o k (effB r.o r.h r.b) = [] := by
      unfold rowsE
      rw [List.filterMap_eq_nil_iff]
      intro e he
      refine if_neg fun z => ?_
      exact effB_w e he (by rw [z, ← c]; rfl)
    rw [this, if_pos c]; simp
  · rw [if_neg c, List.nil_append]; exact rowsE_le
theorem rowsF_asc {k : List Key} {rs : List Rc} : rs.Pairwise (fun x y => x.o < y.o) → (rowsF rs k).Pairwise (fun x y => x.1 < y.1) := by
  refine snocInd (p := fun rs => rs.Pairwise (fun x y => x.o < y.o) → (rowsF rs k).Pairwise (fun x y => x.1 < y.1)) (fun _ => List.Pairwise.nil) (fun rs r ih hp => ?_) rs
  obtain ⟨h1, h2⟩ := asc_snoc hp
  rw [rowsF_snoc, List.pairwise_append]
  refine ⟨ih h1, ?_, fun x hx y hy => ?_⟩
  · have := rowsER_le (r := r) (k := k)
    match hm : rowsE r.o k (effR r), this with
    | [], _ => exact .nil
    | [x], _ => simp
    | _ :: _ :: _, h => simp at h
  · obtain ⟨q, hq, e, _⟩ := rowsF_of hx
    rw [e, rowsE_o y hy]
    exact h2 q hq
def hasK (r : Rc) (k : List Key) : Prop := ∃ e ∈ effR r, e.1 = k
theorem rowsF_mem {rs : List Rc} {k : List Key} {r : Rc} (hr : r ∈ rs) (h : hasK r k) : ∃ x ∈ rowsF rs k, x.1 = r.o := by
  obtain ⟨e, he, hk⟩ := h
  exact ⟨(r.o, e.2), List.mem_flatten.mpr ⟨_, List.mem_map.mpr ⟨r, hr, rfl⟩, List.mem_filterMap.mpr ⟨e, he, if_pos hk⟩⟩, rfl⟩
theorem asc_last {xs : List Rw} {x : Rw} (h : (xs ++ [x]).Pairwise (fun a b => a.1 < b.1)) : ∀ y ∈ xs ++ [x], y.1 ≤ x.1 := by
  rw [List.pairwise_append] at h
  intro y hy
  rcases List.mem_append.mp hy with hy | hy
  · exact Int.le_of_lt (h.2.2 y hy x (by simp))
  · rw [List.mem_singleton.mp hy]; exact Int.le_refl _
theorem lastF_iff {rs : List Rc} {k : List Key} {o : Int} (asc : rs.Pairwise (fun x y => x.o < y.o)) : (rowsF rs k ≠ [] ∧ o = lastF rs k) ↔ ∃ r ∈ rs, r.o = o ∧ hasK r k ∧ ∀ q ∈ rs, hasK q k → q.o ≤ o := by
  have ha := rowsF_asc (k := k) asc
  constructor
  · rintro ⟨hne, e⟩
    rcases List.eq_nil_or_concat (rowsF rs k) with z | ⟨xs, x, z⟩
    · exact absurd z hne
    · rw [List.concat_eq_append] at z
      have el : lastF rs k = x.1 := by unfold lastF; rw [z, List.getLast?_concat]
      obtain ⟨r, hr, hx, hk⟩ := rowsF_of (show x ∈ rowsF rs k by rw [z]; simp)
      refine ⟨r, hr, by rw [e, el, hx], hk, fun q hq hqk => ?_⟩
      obtain ⟨y, hy, ey⟩ := rowsF_mem hq hqk
      rw [z] at hy ha
      have := asc_last ha y hy
      rw [e, el, ← ey]; exact this
  · rintro ⟨r, hr, e, hk, all⟩
    obtain ⟨y, hy, ey⟩ := rowsF_mem hr hk
    refine ⟨List.ne_nil_of_mem hy, ?_⟩
    rcases List.eq_nil_or_concat (rowsF rs k) with z | ⟨xs, x, z⟩
    · rw [z] at hy; cases hy
    · rw [List.concat_eq_append] at z
      have el : lastF rs k = x.1 := by unfold lastF; rw [z, List.getLast?_concat]
      obtain ⟨r', hr', hx, hk'⟩ := rowsF_of (show x ∈ rowsF rs k by rw [z]; simp)
      have h1 := all r' hr' hk'
      rw [z] at hy ha
      have h2 := asc_last ha y hy
      rw [el]; omega
/-! hosts -/
def hostK (h : Int) : List Key := [.inr "host", .inl h]
theorem hasK_host {r : Rc} {h : Int} : hasK r (hostK h) ↔ r.h = h := by
  constructor
  · rintro ⟨e, he, hk⟩
    rcases List.mem_cons.mp he with rfl | he
    · have z : (Sum.inl r.h : Key) = .inl h := by
        injection hk with _ b; injection b
      exact Sum.inl.inj z
    · exact absurd (by rw [hk]; rfl) (effB_w e he)
  · intro e
    exact ⟨effH r, List.mem_cons_self, by rw [← e]; rfl⟩
theorem key_host {rs : List Rc} {k : List Key} (h : rowsF rs k ≠ []) (hw : word k = "host") : ∃ n, k = hostK n := by
  obtain ⟨r, hr, e, he, hk⟩ := rowsF_ex.mp h
  rcases List.mem_cons.mp he with rfl | he
  · exact ⟨r.h, hk.symm⟩
  · exact absurd (by rw [hk]; exact hw) (effB_w e he)
theorem host_iff {rs : List Rc} {h o : Int} (asc : rs.Pairwise (fun x y => x.o < y.o)) : (rowsF rs (hostK h) ≠ [] ∧ o = lastF rs (hostK h)) ↔ lastO rs h = some o := by
  rw [lastF_iff asc, lastO_iff asc]
  constructor
  · rintro ⟨r, hr, e, hk, all⟩
    exact ⟨r, hr, hasK_host.mp hk, e, fun q hq hh => all q hq (hasK_host.mpr hh)⟩
  · rintro ⟨r, hr, hh, e, all⟩
    exact ⟨r, hr, e, hasK_host.mpr hh, fun q hq hk => all q hq (hasK_host.mp hk)⟩
/-! namespaces that are gone -/
theorem hasK_gone {r : Rc} {n : Int} : hasK r (goneK n) ↔ r.b = .remove n := by
  obtain ⟨o, h, s, c, b⟩ := r
  have kg : ∀ {w : Str} {t : List Key}, ¬ w = "gone" → ¬ ((.inr w :: t : List Key) = goneK n) := fun hw => kne1 hw
  constructor
  · rintro ⟨e, he, hk⟩
    rcases List.mem_cons.mp he with rfl | he
    · exact absurd hk (kg (by decide))
    · cases b with
      | remove m =>
        simp only [effB, List.mem_cons, List.not_mem_nil, or_false] at he
        subst he
        have z : (Sum.inl m : Key) = .inl n := by
          injection hk with _ b; injection b
        rw [Sum.inl.inj z]
      | leave n hb => cases hb <;> simp only [effB, List.mem_cons, List.not_mem_nil, or_false] at he <;> (try rcases he with rfl | rfl) <;> (try subst he) <;> exact absurd hk (kg (by decide))
      | preempt n v w => cases w <;> simp only [effB, List.mem_cons, List.not_mem_nil, or_false] at he <;> (try rcases he with rfl | rfl) <;> (try subst he) <;> exact absurd hk (kg (by decide))
      | _ => simp only [effB, List.mem_cons, List.not_mem_nil, or_false] at he; subst he; exact absurd hk (kg (by decide))
  · intro e
    have e' : b = .remove n := e
    subst e'
    exact ⟨_, List.mem_cons_of_mem _ List.mem_cons_self, rfl⟩
theorem effB_gf {o h : Int} {b : Bd} : ∀ e ∈ effB o h b, word e.1 = "gone" → ∃ n, e.1 = goneK n := by
  have wg : ∀ {w : Str} {t : List Key}, ¬ w = "gone" → ¬ word (.inr w :: t) = "gone" := fun h => h
  intro e he hw
  cases b with
  | remove m => simp only [effB, List.mem_cons, List.not_mem_nil, or_false] at he; subst he; exact ⟨m, rfl⟩
  | leave n hb => cases hb <;> simp only [effB, List.mem_cons, List.not_mem_nil, or_false] at he <;> (try rcases he with rfl | rfl) <;> (try subst he) <;> exact absurd hw (wg (by decide))
  | preempt n v w => cases w <;> simp only [effB, List.mem_cons, List.not_mem_nil, or_false] at he <;> (try rcases he with rfl | rfl) <;> (try subst he) <;> exact absurd hw (wg (by decide))
  | _ => simp only [effB, List.mem_cons, List.not_mem_nil, or_false] at he; subst he; exact absurd hw (wg (by decide))
theorem key_gone {rs : List Rc} {k : List Key} (h : rowsF rs k ≠ []) (hw : word k = "gone") : ∃ n, k = goneK n := by
  obtain ⟨r, hr, e, he, hk⟩ := rowsF_ex.mp h
  rcases List.mem_cons.mp he with rfl | he
  · rw [← hk] at hw
    have : (("host" : Str) = "gone") := hw
    exact absurd this (by decide)
  · obtain ⟨n, e2⟩ := effB_gf e he (by rw [hk]; exact hw)
    exact ⟨n, hk.symm.trans e2⟩
theorem begO_lt {rs : List Rc} {n o : Int} (asc : rs.Pairwise (fun x y => x.o < y.o)) : (∃ b, begO rs n = some b ∧ b < o) ↔ ∃ q ∈ rs, q.o < o ∧ memberR q n = true := by
  induction rs with
  | nil => simp [begO]
  | cons r rs ih =>
    rw [List.pairwise_cons] at asc
    have e : begO (r :: rs) n = if memberR r n = true then some r.o else begO rs n := by
      unfold begO
      rw [List.find?_cons]
      cases memberR r n <;> rfl
    rw [e]
    by_cases c : memberR r n = true
    · rw [if_pos c]
      constructor
      · rintro ⟨b, hb, lt⟩
        cases hb
        exact ⟨r, List.mem_cons_self, lt, c⟩
      · rintro ⟨q, hq, lt, _⟩
        rcases List.mem_cons.mp hq with z | hq
        · rw [z] at lt; exact ⟨_, rfl, lt⟩
        · have := asc.1 q hq
          exact ⟨_, rfl, by omega⟩
    · rw [if_neg c, ih asc.2]
      constructor
      · rintro ⟨q, hq, z⟩; exact ⟨q, List.mem_cons_of_mem _ hq, z⟩
      · rintro ⟨q, hq, z⟩
        rcases List.mem_cons.mp hq with y | hq
        · rw [y] at z; exact absurd z.2 c
        · exact ⟨q, hq, z⟩
theorem gone_iff {rs : List Rc} {n o : Int} (asc : rs.Pairwise (fun x y => x.o < y.o)) : (rowsF rs (goneK n) ≠ [] ∧ o = lastF rs (goneK n) ∧ ∃ b, begO rs n = some b ∧ b < o) ↔ ∃ r ∈ rs, r.o = o ∧ r.b = .remove n ∧ GoneR rs r := by
  rw [← and_assoc, lastF_iff asc, begO_lt asc]
  constructor
  · rintro ⟨⟨r, hr, e, hk, all⟩, q, hq, lt, mq⟩
    have hb := hasK_gone.mp hk
    exact ⟨r, hr, e, hb, n, hb, ⟨q, hq, by rw [e]; exact lt, mq⟩, fun p hp gt hrem => by
      have := all p hp (hasK_gone.mpr hrem)
      omega⟩
  · rintro ⟨r, hr, e, hb, n', hb', ⟨q, hq, lt, mq⟩, all⟩
    rw [hb] at hb'; cases hb'
    refine ⟨⟨r, hr, e, hasK_gone.mpr hb, fun p hp hk => ?_⟩, q, hq, by rw [← e]; exact lt, mq⟩
    rcases Classical.em (p.o ≤ o) with z | z
    · exact z
    · exact absurd (hasK_gone.mp hk) (all p hp (by omega))
/-! what is shown -/
theorem present_lt {rs : List Rc} (asc : rs.Pairwise (fun x y => x.o < y.o)) : ∀ r ∈ rs, r.o < presentO rs := by
  intro r hr
  rcases List.eq_nil_or_concat rs with z | ⟨xs, x, z⟩
  · rw [z] at hr; cases hr
  · rw [List.concat_eq_append] at z
    have e : presentO rs = x.o + 1 := by unfold presentO; rw [z, List.getLast?_concat]
    rw [e]
    rw [z] at hr asc
    rcases List.mem_append.mp hr with hr | hr
    · have := (asc_snoc asc).2 r hr; omega
    · rw [List.mem_singleton.mp hr]; omega
/-- a number and a view that show the same -/
def SameV (rs : List Rc) (m : Int) (w : Vw) : Prop := ∀ r ∈ rs, decide (r.o < m) = inView w r.o
theorem sameV_now {rs : List Rc} (asc : rs.Pairwise (fun x y => x.o < y.o)) : SameV rs (presentO rs) none := fun r hr => decide_eq_true (present_lt asc r hr)
theorem sameV_at {rs : List Rc} {n m : Int} : SameV rs m (some (n, m)) := fun r hr => rfl
theorem hid_same {rs : List Rc} {k : List Key} {o m : Int} {w : Vw} (hw : word k ≠ "host") (s : SameV rs m w) : hidF rs k o m = hidL rs k o w := by
  unfold hidF hidL
  rw [strIn_two, decide_eq_false (fun z => hw z.symm), Bool.false_or]
  by_cases c : word k = "told"
  · rw [decide_eq_true c.symm, if_pos rfl, if_pos c]
  · rw [decide_eq_false (fun z => c z.symm), if_neg (by decide), if_neg c, rowsF_B (by show ¬ ("gone" : Str) = "host"; decide)]
    have : ∀ l : List Rw, (∀ x ∈ l, ∃ r ∈ rs, x.1 = r.o) → (l.any fun x => decide (o < x.1) && decide (x.1 < m)) = l.any fun x => decide (o < x.1) && inView w x.1 := by
      intro l
      induction l with
      | nil => intro _; rfl
      | cons x l ih =>
        intro h
        obtain ⟨r, hr, e⟩ := h x List.mem_cons_self
        rw [List.any_cons, List.any_cons, ih fun y hy => h y (List.mem_cons_of_mem _ hy), e, s r hr]
    exact this _ rowsL_mem
theorem vrows_same {rs : List Rc} {k : List Key} {m : Int} {w : Vw} (hw : word k ≠ "host") (s : SameV rs m w) : (rowsF rs k).filter (fun x => decide (x.1 < m)) = vrows rs k w := by
  unfold vrows
  rw [rowsF_B hw]
  refine List.filter_congr fun x hx => ?_
  obtain ⟨r, hr, e⟩ := rowsL_mem x hx
  rw [e, s r hr]
theorem shown_same {rs : List Rc} {k : List Key} {m : Int} {w : Vw} (hw : word k ≠ "host") (s : SameV rs m w) : lastShown rs k m = match (vrows rs k w).getLast? with
    | none => none
    | some x => if hidL rs k x.1 w = true then none else some x := by
  unfold lastShown
  rw [vrows_same hw s]
  cases (vrows rs k w).getLast? with
  | none => rfl
  | some x => dsimp only; rw [hid_same hw s]
theorem one_first {rs : List Rc} {k : List Key} {m : Int} {x : Rw} (asc : rs.Pairwise (fun x y => x.o < y.o)) (hl : ((rowsF rs k).filter fun x => decide (x.1 < m)).getLast? = some x) : ((rowsF rs k).filter fun x => decide (x.1 < m)).length = 1 ↔ x.1 = firstO rs k := by
  have ha := rowsF_asc (k := k) asc
  unfold firstO
  cases e : rowsF rs k with
  | nil => rw [e] at hl; cases hl
  | cons y ys =>
    rw [e] at hl ha
    rw [List.pairwise_cons] at ha
    have hm : x.1 < m := by
      have := (List.mem_filter.mp (List.mem_of_getLast? hl)).2
      exact of_decide_eq_true this
    have hx := (List.mem_filter.mp (List.mem_of_getLast? hl)).1
    have hy : y.1 < m := by
      rcases List.mem_cons.mp hx with z | z
      · rw [← z]; exact hm
      · have := ha.1 x z; omega
    rw [List.filter_cons, decide_eq_true hy, if_pos rfl] at hl ⊢
    show _ ↔ x.1 = y.1
    rw [List.length_cons]
    cases hf : ys.filter (fun x => decide (x.1 < m)) with
    | nil =>
      rw [hf] at hl
      cases hl
      simp
    | cons z zs =>
      rw [hf] at hl
      have hx2 : x ∈ z :: zs := by
        rw [List.getLast?_cons_cons] at hl
        exact List.mem_of_getLast? hl
      rw [← hf] at hx2
      have := ha.1 x (List.mem_filter.mp hx2).1
      constructor
      · intro h; simp at h
      · intro h; omega
theorem byTop_iff {rs : List Rc} {k : List Key} {m o : Int} {w : Vw} (asc : rs.Pairwise (fun x y => x.o < y.o)) (hw : word k ≠ "host") (s : SameV rs m w) : o ∈ byTop rs k w ↔ ∃ x, lastShown rs k m = some x ∧ x.1 = o ∧ (noneQ x.2 = false ∨ x.1 ≠ firstO rs k) := by
  rw [shown_same hw s]
  unfold byTop
  cases hl : (vrows rs k w).getLast? with
  | none => simp
  | some x =>
    dsimp only
    have h1 := one_first (k := k) (m := m) (x := x) asc (by rw [vrows_same hw s]; exact hl)
    rw [vrows_same hw s] at h1
    cases hh : hidL rs k x.1 w with
    | true => simp
    | false =>
      rw [if_neg Bool.false_ne_true, if_neg Bool.false_ne_true]
      by_cases c : noneQ x.2 = true ∧ (vrows rs k w).length = 1
      · rw [if_pos c]
        constructor
        · intro z; cases z
        · rintro ⟨y, e, _, z⟩
          cases e
          rcases z with z | z
          · rw [c.1] at z; cases z
          · exact absurd (h1.mp c.2) z
      · rw [if_neg c, List.mem_singleton]
        constructor
        · intro e
          refine ⟨x, rfl, e.symm, ?_⟩
          cases hq : noneQ x.2 with
          | false => exact .inl rfl
          | true => exact .inr fun z => c ⟨hq, h1.mpr z⟩
        · rintro ⟨y, e, e2, _⟩
          cases e; exact e2.symm
/-! topics -/
theorem foldT_mem {k : List Key} : ∀ {es : List Ef} {ts : Tops}, k ∈ es.foldl addT ts ↔ k ∈ ts ∨ (word k ≠ "gone" ∧ ∃ e ∈ es, e.1 = k)
  | [], ts => by simp
  | e :: es, ts => by
    rw [List.foldl_cons, foldT_mem (es := es) (ts := addT ts e)]
    unfold addT
    constructor
    · rintro (h | ⟨h1, e', he', h2⟩)
      · split at h
        · exact .inl h
        · rename_i c
          rcases List.mem_append.mp h with h | h
          · exact .inl h
          · rw [List.mem_singleton.mp h]
            exact .inr ⟨fun z => c (.inr z), e, List.mem_cons_self, rfl⟩
      · exact .inr ⟨h1, e', List.mem_cons_of_mem _ he', h2⟩
    · rintro (h | ⟨h1, e', he', h2⟩)
      · left
        split
        · exact h
        · exact List.mem_append.mpr (.inl h)
      · rcases List.mem_cons.mp he' with rfl | he'
        · left
          split
          · rename_i c
            rcases c with c | c
            · rw [← h2]; exact c
            · exact absurd c (by rw [h2]; exact h1)
          · exact List.mem_append.mpr (.inr (by rw [h2]; simp))
        · exact .inr ⟨h1, e', he', h2⟩
theorem topicsL_mem {rs : List Rc} {k : List Key} : k ∈ topicsL rs ↔ word k ≠ "gone" ∧ word k ≠ "host" ∧ rowsF rs k ≠ [] := by
  unfold topicsL
  rw [foldT_mem]
  constructor
  · rintro (h | ⟨h1, e, he, h2⟩)
    · cases h
    · obtain ⟨l, hl, he⟩ := List.mem_flatten.mp he
      obtain ⟨r, hr, rfl⟩ := List.mem_map.mp hl
      exact ⟨h1, by rw [← h2]; exact effB_w e he, rowsF_ex.mpr ⟨r, hr, e, List.mem_cons_of_mem _ he, h2⟩⟩
  · rintro ⟨h1, h2, h3⟩
    obtain ⟨r, hr, e, he, hk⟩ := rowsF_ex.mp h3
    rcases List.mem_cons.mp he with rfl | he
    · exact absurd (by rw [← hk]; rfl) h2
    · exact .inr ⟨h1, e, List.mem_flatten.mpr ⟨_, List.mem_map.mpr ⟨r, hr, rfl⟩, he⟩, hk⟩
theorem foldT_nodup : ∀ {es : List Ef} {ts : Tops}, ts.Nodup → (es.foldl addT ts).Nodup
  | [], _, h => h
  | e :: es, ts, h => by
    refine foldT_nodup (es := es) (ts := addT ts e) ?_
    unfold addT
    split
    · exact h
    · rename_i c
      rw [List.nodup_append]
      refine ⟨h, by simp, fun x hx y hy => ?_⟩
      rw [List.mem_singleton.mp hy]
      intro z
      exact c (.inl (by rw [← z]; exact hx))
theorem topicsL_nodup {rs : List Rc} : (topicsL rs).Nodup := foldT_nodup List.nodup_nil
/-! values and snapshots -/
theorem vrows_none {rs : List Rc} {k : List Key} : vrows rs k none = rowsL rs k := by
  unfold vrows
  exact List.filter_eq_self.mpr fun _ _ => rfl
theorem shown_val {rs : List Rc} {k : List Key} (asc : rs.Pairwise (fun x y => x.o < y.o)) (h1 : word k ≠ "host") (h2 : word k ≠ "gone") (h3 : word k ≠ "told") : noneQ (valL rs k) = false ↔ ∃ x, lastShown rs k (presentO rs) = some x ∧ noneQ x.2 = false := by
  rw [valL_eq h2 h3 asc, shown_same h1 (sameV_now asc), vrows_none]
  unfold valQ
  cases (rowsL rs k).getLast? with
  | none => simp [noneQ]
  | some x =>
    dsimp only
    cases hidL rs k x.1 none with
    | true => simp [noneQ]
    | false => simp
theorem snapEx_iff {rs : List Rc} {n m : Int} : SnapEx rs n m ↔ ∃ x, lastShown rs (snapK n m) (presentO rs) = some x ∧ noneQ x.2 = false := by
  unfold SnapEx shownB
  cases lastShown rs (snapK n m) (presentO rs) with
  | none => simp
  | some x => simp
theorem views_iff {rs : List Rc} {n m : Int} (asc : rs.Pairwise (fun x y => x.o < y.o)) : (n, m) ∈ viewsL rs ↔ SnapEx rs n m := by
  have w1 : word (snapK n m) ≠ "host" := by show ¬ ("snap" : Str) = "host"; decide
  have w2 : word (snapK n m) ≠ "gone" := by show ¬ ("snap" : Str) = "gone"; decide
  have w3 : word (snapK n m) ≠ "told" := by show ¬ ("snap" : Str) = "told"; decide
  rw [snapEx_iff, ← shown_val asc w1 w2 w3]
  unfold viewsL
  rw [List.mem_map]
  constructor
  · rintro ⟨k, hk, e⟩
    obtain ⟨hk1, hk2⟩ := List.mem_filter.mp hk
    unfold isView at hk2
    rw [Bool.and_eq_true, decide_eq_true_iff] at hk2
    obtain ⟨n', m', ek⟩ := topicsL_s k hk1 hk2.1
    have e' : (n', m') = (n, m) := by
      rw [ek] at e; exact e
    cases e'
    rw [ek] at hk2
    have z : (!noneQ (valL rs (snapK n m))) = true := hk2.2
    rw [Bool.not_eq_true'] at z
    exact z
  · intro h
    refine ⟨snapK n m, List.mem_filter.mpr ⟨?_, ?_⟩, rfl⟩
    · refine topicsL_mem.mpr ⟨w2, w1, fun e => ?_⟩
      have := (shown_val asc w1 w2 w3).mp h
      obtain ⟨x, hx, _⟩ := this
      unfold lastShown at hx
      rw [e] at hx; cases hx
    · unfold isView
      rw [h, decide_eq_true (show word (snapK n m) = "snap" from rfl)]; rfl
/-! the two agree -/
theorem live_iff {rs : List Rc} {o : Int} (asc : rs.Pairwise (fun x y => x.o < y.o)) : (∃ k, rowsF rs k ≠ [] ∧ LiveO rs k o) ↔ LiveP rs (viewsL rs) o := by
  unfold LiveP
  constructor
  · rintro ⟨k, hne, hl⟩
    unfold LiveO at hl
    by_cases ch : word k = "host"
    · rw [if_pos ch] at hl
      obtain ⟨n, ek⟩ := key_host hne ch
      subst ek
      exact .inl ⟨n, (host_iff asc).mp ⟨hne, hl⟩⟩
    · rw [if_neg ch] at hl
      by_cases cg : word k = "gone"
      · rw [if_pos cg] at hl
        obtain ⟨n, ek⟩ := key_gone hne cg
        subst ek
        obtain ⟨r, hr, e, _, g⟩ := (gone_iff asc).mp ⟨hne, hl.1, hl.2⟩
        exact .inr (.inr ⟨r, hr, e, g⟩)
      · rw [if_neg cg] at hl
        obtain ⟨m, hv, x, hx⟩ := hl
        refine .inr (.inl ⟨k, topicsL_mem.mpr ⟨cg, ch, hne⟩, ?_⟩)
        rcases hv with e | ⟨hp, hs⟩
        · rw [e] at hx
          exact .inl ((byTop_iff asc ch (sameV_now asc)).mpr ⟨x, hx⟩)
        · exact .inr ⟨hp, (spaceK k, m), (views_iff asc).mpr hs, rfl, (byTop_iff asc ch sameV_at).mpr ⟨x, hx⟩⟩
  · rintro (⟨n, h⟩ | ⟨k, hk, h⟩ | ⟨r, hr, e, g⟩)
    · obtain ⟨a, b⟩ := (host_iff asc).mpr h
      refine ⟨hostK n, a, ?_⟩
      unfold LiveO
      rw [if_pos (show word (hostK n) = "host" from rfl)]; exact b
    · obtain ⟨h1, h2, h3⟩ := topicsL_mem.mp hk
      refine ⟨k, h3, ?_⟩
      unfold LiveO
      rw [if_neg h2, if_neg h1]
      rcases h with h | ⟨hp, v, hv, e, h⟩
      · obtain ⟨x, hx⟩ := (byTop_iff asc h2 (sameV_now asc)).mp h
        exact ⟨presentO rs, .inl rfl, x, hx⟩
      · obtain ⟨vn, vm⟩ := v
        obtain ⟨x, hx⟩ := (byTop_iff asc h2 sameV_at).mp h
        have e' : spaceK k = vn := e
        exact ⟨vm, .inr ⟨hp, by rw [e']; exact (views_iff asc).mp hv⟩, x, hx⟩
    · obtain ⟨n, hb, g'⟩ := id g
      obtain ⟨a, b, c⟩ := (gone_iff asc).mpr ⟨r, hr, e, hb, g⟩
      refine ⟨goneK n, a, ?_⟩
      unfold LiveO
      rw [if_neg (show ¬ word (goneK n) = "host" by show ¬ ("gone" : Str) = "host"; decide), if_pos (show word (goneK n) = "gone" from rfl)]
      exact ⟨b, c⟩
theorem progL_eq {rs : List Rc} (asc : rs.Pairwise (fun x y => x.o < y.o)) : progL rs = liveL rs (viewsL rs) := by
  unfold progL liveL
  refine List.filter_congr fun r _ => ?_
  have z := live_iff (o := r.o) asc
  by_cases c : LiveP rs (viewsL rs) r.o
  · rw [@decide_eq_true _ (Classical.propDecidable _) c, @decide_eq_true _ (Classical.propDecidable _) (z.mpr c)]
  · rw [@decide_eq_false _ (Classical.propDecidable _) c, @decide_eq_false _ (Classical.propDecidable _) fun y => c (z.mp y)]
theorem rowLast_eq {rs : List Rc} {k : List Key} {x : Rw} (asc : rs.Pairwise (fun x y => x.o < y.o)) (h1 : word k ≠ "host") (h : lastShown rs k (presentO rs) = some x) : rowLast rs k = x.1 := by
  rw [shown_same h1 (sameV_now asc), vrows_none] at h
  unfold rowLast
  cases e : (rowsL rs k).getLast? with
  | none => rw [e] at h; cases h
  | some y =>
    rw [e] at h
    dsimp only at h
    split at h
    · cases h
    · cases h; rfl
theorem isSh_iff {rs : List Rc} {k : List Key} (asc : rs.Pairwise (fun x y => x.o < y.o)) : isSh rs (viewsL rs) k = true ↔ ShK rs k := by
  unfold isSh ShK
  rw [Bool.and_eq_true, decide_eq_true_iff]
  refine and_congr_right fun hw => ?_
  have w1 : word k ≠ "host" := by rw [hw]; decide
  have w2 : word k ≠ "gone" := by rw [hw]; decide
  have w3 : word k ≠ "told" := by rw [hw]; decide
  rw [Bool.and_eq_true, Bool.not_eq_true', shown_val asc w1 w2 w3, List.any_eq_true]
  unfold sharedB
  constructor
  · rintro ⟨⟨x, hx, hq⟩, v, hv, e⟩
    rw [Bool.and_eq_true, decide_eq_true_iff, decide_eq_true_iff, rowLast_eq asc w1 hx] at e
    obtain ⟨vn, vm⟩ := v
    exact ⟨x, hx, hq, vm, by rw [← e.1]; exact (views_iff asc).mp hv, e.2⟩
  · rintro ⟨x, hx, hq, m, hs, lt⟩
    refine ⟨⟨x, hx, hq⟩, (spaceK k, m), (views_iff asc).mpr hs, ?_⟩
    rw [rowLast_eq asc w1 hx, decide_eq_true rfl, decide_eq_true lt]; rfl
theorem pr_inj {rs : List Rc} {k k' : List Key} (h : PForm k) (h' : PForm k') (w : word k = "place") (w' : word k' = "place") (e : prK k = prK k') : k = k' := by
  obtain ⟨n, m, e1⟩ := h w
  obtain ⟨n', m', e2⟩ := h' w'
  rw [e1, e2] at e
  have e3 : (n, m) = (n', m') := e
  cases e3
  rw [e1, e2]
theorem nodup_mapOn {α β : Type} {f : α → β} : ∀ {l : List α}, l.Nodup → (∀ x ∈ l, ∀ y ∈ l, f x = f y → x = y) → (l.map f).Nodup
  | [], _, _ => List.nodup_nil
  | a :: l, nd, h => by
    rw [List.nodup_cons] at nd
    rw [List.map_cons, List.nodup_cons]
    refine ⟨fun z => ?_, nodup_mapOn nd.2 fun x hx y hy => h x (List.mem_cons_of_mem _ hx) y (List.mem_cons_of_mem _ hy)⟩
    obtain ⟨y, hy, e⟩ := List.mem_map.mp z
    have := h y (List.mem_cons_of_mem _ hy) a List.mem_cons_self e
    rw [this] at hy; exact nd.1 hy
theorem shared_perm {rs : List Rc} {ks : Tops} (asc : rs.Pairwise (fun x y => x.o < y.o)) (nd : ks.Nodup) (hk : ∀ k, k ∈ ks ↔ rowsF rs k ≠ []) : (shPl rs ks).Perm (sharedL rs (viewsL rs)) := by
  have m1 : ∀ k, k ∈ ks.filter (fun k => @decide (ShK rs k) (Classical.propDecidable _)) ↔ rowsF rs k ≠ [] ∧ ShK rs k := fun k => by
    rw [List.mem_filter, hk]
    exact and_congr_right fun _ => ⟨fun z => @of_decide_eq_true _ (Classical.propDecidable _) z, fun z => @decide_eq_true _ (Classical.propDecidable _) z⟩
  have m2 : ∀ k, k ∈ (topicsL rs).filter (isSh rs (viewsL rs)) ↔ rowsF rs k ≠ [] ∧ ShK rs k := fun k => by
    rw [List.mem_filter, isSh_iff asc, topicsL_mem]
    constructor
    · rintro ⟨⟨_, _, a⟩, b⟩; exact ⟨a, b⟩
    · rintro ⟨a, b⟩
      exact ⟨⟨by rw [b.1]; decide, by rw [b.1]; decide, a⟩, b⟩
  have p : (ks.filter (fun k => @decide (ShK rs k) (Classical.propDecidable _))).Perm ((topicsL rs).filter (isSh rs (viewsL rs))) :=
    (List.perm_ext_iff_of_nodup (nd.filter _) (topicsL_nodup.filter _)).mpr fun k => (m1 k).trans (m2 k).symm
  exact p.map prK
/-! rounds -/
theorem itP_len {g : List Rc → List Rc} (hg : ∀ x, (g x).length ≤ x.length ∧ ((g x).length = x.length → g x = x)) {x : List Rc} : ∀ n, g (itP g n x) = itP g n x ∨ (itP g n x).length + n ≤ x.length
  | 0 => .inr (Nat.le_refl _)
  | n + 1 => by
    rcases itP_len hg (x := x) n with h | h
    · left
      show g (g (itP g n x)) = g (itP g n x)
      rw [h, h]
    · have z := hg (itP g n x)
      show g (g (itP g n x)) = g (itP g n x) ∨ (g (itP g n x)).length + (n + 1) ≤ x.length
      by_cases c : (g (itP g n x)).length = (itP g n x).length
      · left; rw [z.2 c, z.2 c]
      · right; omega
theorem itP_stay {g : List Rc → List Rc} {x : List Rc} {n : Nat} (h : g (itP g n x) = itP g n x) : ∀ m, itP g (n + m) x = itP g n x
  | 0 => rfl
  | m + 1 => by
    show g (itP g (n + m) x) = _
    rw [itP_stay h m, h]
theorem itP_fix {g : List Rc → List Rc} (hg : ∀ x, (g x).length ≤ x.length ∧ ((g x).length = x.length → g x = x)) {x : List Rc} {n N : Nat} (hN : x.length < N) (h : g (itP g n x) = itP g n x) : itP g n x = itP g N x := by
  have hf : g (itP g N x) = itP g N x := by
    rcases itP_len hg (x := x) N with z | z
    · exact z
    · omega
  rcases Nat.le_total n N with c | c
  · obtain ⟨m, rfl⟩ := Nat.exists_eq_add_of_le c
    exact (itP_stay h m).symm
  · obtain ⟨m, rfl⟩ := Nat.exists_eq_add_of_le c
    exact itP_stay hf m
theorem progL_dec (x : List Rc) : (progL x).length ≤ x.length ∧ ((progL x).length = x.length → progL x = x) := ⟨progL_sub.length_le, fun h => progL_sub.eq_of_length h⟩
end Sg

set_option Elab.async false
set_option linter.all false
set_option maxRecDepth 100000
set_option maxHeartbeats 4000000
namespace Sg
open PySem PySem.Spec PyProof.Rows L2
/-! ### the value of a topic in a view -/
def progV (rs : List Rc) (k : List Key) (m : Int) : PyData := match lastShown rs k m with
  | none => .none
  | some x => x.2
def inW (rs : List Rc) (w : Vw) : List Rc := rs.filter fun r => inView w r.o
def valW (rs : List Rc) (k : List Key) (w : Vw) : PyData := valL (inW rs w) k
theorem valL_told {k : List Key} (hw : word k = "told") {rs : List Rc} : valL rs k = valQ rs k := by
  have st : ∀ (v : PyData) (e : Ef), valStep k v e = if e.1 = k then e.2 else v := fun v e => by
    unfold valStep
    rw [if_neg (fun z => z.2.2 hw)]
  have hid : ∀ rs o, hidL rs k o none = false := fun rs o => by unfold hidL; rw [if_pos hw]
  have vq : ∀ rs, valQ rs k = match (rowsL rs k).getLast? with
    | none => .none
    | some x => x.2 := fun rs => by
    unfold valQ
    cases (rowsL rs k).getLast? with
    | none => rfl
    | some x => dsimp only; rw [hid, if_neg Bool.false_ne_true]
  refine snocInd (p := fun rs => valL rs k = valQ rs k) rfl (fun rs r ih => ?_) rs
  have e0 : valL (rs ++ [r]) k = (effB r.o r.h r.b).foldl (valStep k) (valL rs k) := by
    unfold valL; rw [effsL_snoc, List.foldl_append]
  rw [e0, ih, vq, vq, rowsL_snoc]
  generalize rowsL rs k = X
  have last : ∀ (X : List Rw) (o : Int) (d : PyData), (match (X ++ [(o, d)]).getLast? with
    | none => .none
    | some x => x.2 : PyData) = d := fun X o d => by rw [List.getLast?_concat]
  rcases effB_two (o := r.o) (h := r.h) (b := r.b) with ⟨e, he⟩ | ⟨e, f, he, ne, _, _⟩
  · rw [he, List.foldl_cons, List.foldl_nil, rowsE_one, st]
    by_cases c : e.1 = k
    · rw [if_pos c, if_pos c, last]
    · rw [if_neg c, if_neg c, List.append_nil]
  · rw [he, List.foldl_cons, List.foldl_cons, List.foldl_nil, rowsE_two, rowsE_one, rowsE_one, st, st]
    by_cases c : e.1 = k
    · have c2 : ¬ f.1 = k := fun z => ne (c.trans z.symm)
      rw [if_pos c, if_neg c2, if_pos c, if_neg c2, List.append_nil, last]
    · rw [if_neg c, if_neg c, List.nil_append]
      by_cases c2 : f.1 = k
      · rw [if_pos c2, if_pos c2, last]
      · rw [if_neg c2, if_neg c2, List.append_nil]
theorem rowsL_filter {k : List Key} {p : Int → Bool} : ∀ {rs : List Rc}, rowsL (rs.filter fun r => p r.o) k = (rowsL rs k).filter fun x => p x.1
  | [] => rfl
  | r :: rs => by
    have ih := rowsL_filter (k := k) (p := p) (rs := rs)
    have e : rowsL (r :: rs) k = rowsE r.o k (effB r.o r.h r.b) ++ rowsL rs k := by unfold rowsL; rw [List.map_cons, List.flatten_cons]
    rw [e, List.filter_append, ← ih, List.filter_cons]
    have hx := rowsE_o (o := r.o) (k := k) (es := effB r.o r.h r.b)
    cases c : p r.o with
    | true =>
      rw [if_pos rfl]
      have e2 : rowsL (r :: rs.filter fun r => p r.o) k = rowsE r.o k (effB r.o r.h r.b) ++ rowsL (rs.filter fun r => p r.o) k := by unfold rowsL; rw [List.map_cons, List.flatten_cons]
      have f1 : (rowsE r.o k (effB r.o r.h r.b)).filter (fun x => p x.1) = rowsE r.o k (effB r.o r.h r.b) := List.filter_eq_self.mpr fun x h => by rw [hx x h]; exact c
      rw [e2, f1]
    | false =>
      have f1 : (rowsE r.o k (effB r.o r.h r.b)).filter (fun x => p x.1) = [] := List.filter_eq_nil_iff.mpr fun x h => by rw [hx x h, c]; simp
      rw [if_neg Bool.false_ne_true, f1, List.nil_append]
theorem rowsF_filter {k : List Key} {p : Int → Bool} : ∀ {rs : List Rc}, rowsF (rs.filter fun r => p r.o) k = (rowsF rs k).filter fun x => p x.1
  | [] => rfl
  | r :: rs => by
    have ih := rowsF_filter (k := k) (p := p) (rs := rs)
    have e : rowsF (r :: rs) k = rowsE r.o k (effR r) ++ rowsF rs k := by unfold rowsF; rw [List.map_cons, List.flatten_cons]
    rw [e, List.filter_append, ← ih, List.filter_cons]
    have hx := rowsE_o (o := r.o) (k := k) (es := effR r)
    cases c : p r.o with
    | true =>
      rw [if_pos rfl]
      have e2 : rowsF (r :: rs.filter fun r => p r.o) k = rowsE r.o k (effR r) ++ rowsF (rs.filter fun r => p r.o) k := by unfold rowsF; rw [List.map_cons, List.flatten_cons]
      have f1 : (rowsE r.o k (effR r)).filter (fun x => p x.1) = rowsE r.o k (effR r) := List.filter_eq_self.mpr fun x h => by rw [hx x h]; exact c
      rw [e2, f1]
    | false =>
      have f1 : (rowsE r.o k (effR r)).filter (fun x => p x.1) = [] := List.filter_eq_nil_iff.mpr fun x h => by rw [hx x h, c]; simp
      rw [if_neg Bool.false_ne_true, f1, List.nil_append]
theorem inW_asc {rs : List Rc} {w : Vw} (h : rs.Pairwise (fun x y => x.o < y.o)) : (inW rs w).Pairwise (fun x y => x.o < y.o) := h.sublist List.filter_sublist
theorem hid_inW {rs : List Rc} {k : List Key} {o : Int} {w : Vw} : hidL (inW rs w) k o none = hidL rs k o w := by
  unfold hidL
  split
  · rfl
  · unfold inW
    rw [rowsL_filter (p := fun o => inView w o), List.any_filter]
    congr 1
    funext x
    show (inView w x.1 && (decide (o < x.1) && true)) = _
    rw [Bool.and_true, Bool.and_comm]
theorem valW_eq {rs : List Rc} {k : List Key} {m : Int} {w : Vw} (asc : rs.Pairwise (fun x y => x.o < y.o)) (h1 : word k ≠ "host") (h2 : word k ≠ "gone") (s : SameV rs m w) : valW rs k w = progV rs k m := by
  unfold valW
  have e : valL (inW rs w) k = valQ (inW rs w) k := by
    by_cases c : word k = "told"
    · exact valL_told c
    · exact valL_eq h2 c (inW_asc asc)
  rw [e]
  unfold valQ progV
  rw [shown_same h1 s]
  have er : rowsL (inW rs w) k = vrows rs k w := rowsL_filter (p := fun o => inView w o)
  rw [er]
  cases (vrows rs k w).getLast? with
  | none => rfl
  | some x =>
    dsimp only
    rw [hid_inW]
    cases hidL rs k x.1 w with
    | true => rfl
    | false => rfl
/-! ### leaving out what is dead -/
theorem rowsF_of2 {rs : List Rc} {k : List Key} {x : Rw} (h : x ∈ rowsF rs k) : ∃ r ∈ rs, x.1 = r.o ∧ ∃ e ∈ effR r, e.1 = k ∧ e.2 = x.2 := by
  obtain ⟨l, hl, hx⟩ := List.mem_flatten.mp h
  obtain ⟨r, hr, rfl⟩ := List.mem_map.mp hl
  obtain ⟨e, he, z⟩ := List.mem_filterMap.mp hx
  split at z
  · cases z; exact ⟨r, hr, rfl, e, he, by assumption, rfl⟩
  · cases z
theorem snap_eff {r : Rc} {n m : Int} : ∀ e ∈ effR r, e.1 = snapK n m → noneQ e.2 = false → r.o = m ∧ ∃ n', r.b = .snap n' := by
  obtain ⟨o, h, s, c, b⟩ := r
  have ks : ∀ {w : Str} {t : List Key}, ¬ w = "snap" → ¬ ((.inr w :: t : List Key) = snapK n m) := fun hw => kne1 hw
  intro e he hk hq
  rcases List.mem_cons.mp he with rfl | he
  · exact absurd hk (ks (by decide))
  · cases b with
    | snap n' =>
      simp only [effB, List.mem_cons, List.not_mem_nil, or_false] at he
      subst he
      have z : (Sum.inl o : Key) = .inl m := by
        injection hk with _ b; injection b with _ b; injection b
      exact ⟨Sum.inl.inj z, n', rfl⟩
    | drop n' s' => simp only [effB, List.mem_cons, List.not_mem_nil, or_false] at he; subst he; cases hq
    | leave n hb => cases hb <;> simp only [effB, List.mem_cons, List.not_mem_nil, or_false] at he <;> (try rcases he with rfl | rfl) <;> (try subst he) <;> exact absurd hk (ks (by decide))
    | preempt n v w => cases w <;> simp only [effB, List.mem_cons, List.not_mem_nil, or_false] at he <;> (try rcases he with rfl | rfl) <;> (try subst he) <;> exact absurd hk (ks (by decide))
    | _ => simp only [effB, List.mem_cons, List.not_mem_nil, or_false] at he; subst he; exact absurd hk (ks (by decide))
/-- behind a snapshot that exists its namespace is not gone -/
theorem gone_before {rs : List Rc} {n m : Int} (asc : rs.Pairwise (fun x y => x.o < y.o)) (h : SnapEx rs n m) : ∀ g ∈ rowsF rs (goneK n), g.1 < m := by
  obtain ⟨x, hx, hq⟩ := snapEx_iff.mp h
  have hm := shown_mem hx
  obtain ⟨r, hr, e1, e, he, hk, e2⟩ := rowsF_of2 hm
  obtain ⟨ro, n', rb⟩ := snap_eff e he hk (by rw [e2]; exact hq)
  have xm : x.1 = m := e1.trans ro
  have hid : hidF rs (snapK n m) x.1 (presentO rs) = false := by
    unfold lastShown at hx
    split at hx
    · cases hx
    · rename_i y hy
      split at hx
      · cases hx
      · rename_i c; cases hx
        simpa using c
  intro g hg
  obtain ⟨q, hq', gq, _⟩ := rowsF_of hg
  obtain ⟨q2, hq2, gq2, ge⟩ := rowsF_of hg
  have lt := present_lt asc q hq'
  rcases Int.lt_trichotomy g.1 m with z | z | z
  · exact z
  · have : q2 = r := asc_inj asc q2 hq2 r hr (by rw [← gq2, z, ro])
    rw [this] at ge
    have := hasK_gone.mp ge
    rw [rb] at this; cases this
  · have : hidF rs (snapK n m) x.1 (presentO rs) = true := by
      unfold hidF
      rw [if_neg (by show ¬ strIn "snap" ["host", "told"] = true; decide)]
      refine List.any_eq_true.mpr ⟨g, hg, ?_⟩
      rw [decide_eq_true (by omega), decide_eq_true (by omega)]; rfl
    rw [hid] at this; cases this
section
variable {A B : List Rc}
structure Kept (A B : List Rc) : Prop where
  asc : A.Pairwise (fun x y => x.o < y.o)
  sub : B.Sublist A
  live : ∀ r ∈ A, (∃ k, rowsF A k ≠ [] ∧ LiveO A k r.o) → r ∈ B
open Classical in
theorem Kept.filt (h : Kept A B) : B = A.filter fun r => decide (∃ q ∈ B, q.o = r.o) := by
  refine asc_uniq (h.asc.sublist h.sub) (h.asc.sublist List.filter_sublist) fun r => ?_
  rw [List.mem_filter, decide_eq_true_iff]
  constructor
  · intro hr; exact ⟨h.sub.subset hr, r, hr, rfl⟩
  · rintro ⟨hr, q, hq, e⟩
    rw [← asc_inj h.asc q (h.sub.subset hq) r hr e]; exact hq
open Classical in
theorem Kept.rows (h : Kept A B) (k : List Key) : rowsF B k = (rowsF A k).filter fun x => decide (∃ q ∈ B, q.o = x.1) := by
  have e := h.filt
  conv => lhs; rw [e]
  exact rowsF_filter (p := fun o => decide (∃ q ∈ B, q.o = o))
theorem Kept.ascB (h : Kept A B) : B.Pairwise (fun x y => x.o < y.o) := h.asc.sublist h.sub
theorem Kept.mem (h : Kept A B) {k : List Key} {x : Rw} : x ∈ rowsF B k ↔ x ∈ rowsF A k ∧ ∃ q ∈ B, q.o = x.1 := by
  rw [h.rows, List.mem_filter]
  exact and_congr_right fun _ => decide_eq_true_iff
/-- the live one of a topic is kept -/
theorem Kept.inB (h : Kept A B) {k : List Key} {x : Rw} (hx : x ∈ rowsF A k) {k' : List Key} (h1 : rowsF A k' ≠ []) (h2 : LiveO A k' x.1) : ∃ q ∈ B, q.o = x.1 := by
  obtain ⟨r, hr, e, _⟩ := rowsF_of hx
  exact ⟨r, h.live r hr ⟨k', h1, by rw [← e]; exact h2⟩, e.symm⟩
theorem last_filter {α : Type} {p : α → Bool} {xs : List α} {x : α} (hp : p x = true) : ((xs ++ [x]).filter p).getLast? = some x := by
  rw [List.filter_append, List.filter_cons, hp, if_pos rfl, List.filter_nil, List.getLast?_concat]
theorem Kept.value (h : Kept A B) {k : List Key} {mA mB : Int} (h1 : word k ≠ "host") (h2 : word k ≠ "gone") (hm : ∀ r ∈ B, decide (r.o < mB) = decide (r.o < mA)) (hv : ViewN A k mA) (hg : ∀ g ∈ rowsF A (goneK (spaceK k)), g.1 < mA) : progV B k mB = progV A k mA := by
  have asc := h.asc
  have ra := rowsF_asc (k := k) asc
  obtain ⟨FA, hFA⟩ : ∃ F, F = (rowsF A k).filter fun x => decide (x.1 < mA) := ⟨_, rfl⟩
  obtain ⟨FB, hFB⟩ : ∃ F, F = (rowsF B k).filter fun x => decide (x.1 < mB) := ⟨_, rfl⟩
  have mB' : ∀ x ∈ rowsF B k, decide (x.1 < mB) = decide (x.1 < mA) := fun x hx => by
    obtain ⟨r, hr, e, _⟩ := rowsF_of hx
    rw [e]; exact hm r hr
  have memB : ∀ x, x ∈ FB ↔ x ∈ FA ∧ ∃ q ∈ B, q.o = x.1 := fun x => by
    rw [hFB, hFA, List.mem_filter, List.mem_filter]
    constructor
    · rintro ⟨a, b⟩
      obtain ⟨c, d⟩ := h.mem.mp a
      exact ⟨⟨c, by rw [← mB' x a]; exact b⟩, d⟩
    · rintro ⟨⟨a, b⟩, c⟩
      have z := h.mem.mpr ⟨a, c⟩
      exact ⟨z, by rw [mB' x z]; exact b⟩
  have ascFA : FA.Pairwise (fun x y => x.1 < y.1) := by rw [hFA]; exact ra.sublist List.filter_sublist
  have ascFB : FB.Pairwise (fun x y => x.1 < y.1) := by rw [hFB]; exact (rowsF_asc h.ascB).sublist List.filter_sublist
  have pA : progV A k mA = match FA.getLast? with
    | none => .none
    | some x => if hidF A k x.1 mA = true then .none else x.2 := by
    unfold progV lastShown
    rw [← hFA]
    cases FA.getLast? with
    | none => rfl
    | some x => dsimp only; cases hidF A k x.1 mA <;> rfl
  have pB : progV B k mB = match FB.getLast? with
    | none => .none
    | some x => if hidF B k x.1 mB = true then .none else x.2 := by
    unfold progV lastShown
    rw [← hFB]
    cases FB.getLast? with
    | none => rfl
    | some x => dsimp only; cases hidF B k x.1 mB <;> rfl
  rcases List.eq_nil_or_concat FA with e | ⟨xs, x, e⟩
  · have eB : FB = [] := List.eq_nil_iff_forall_not_mem.mpr fun y hy => by
      have := (memB y).mp hy
      rw [e] at this; cases this.1
    rw [pA, pB, e, eB]; rfl
  · rw [List.concat_eq_append] at e
    have xA : x ∈ FA := by rw [e]; simp
    have xr : x ∈ rowsF A k := by rw [hFA] at xA; exact (List.mem_filter.mp xA).1
    have xlt : x.1 < mA := by rw [hFA] at xA; exact of_decide_eq_true (List.mem_filter.mp xA).2
    have lA : FA.getLast? = some x := by rw [e]; exact List.getLast?_concat
    have ylex : ∀ y ∈ FA, y.1 ≤ x.1 := fun y hy => by
      rw [e] at hy ascFA
      exact asc_last ascFA y hy
    have hne : rowsF A k ≠ [] := List.ne_nil_of_mem xr
    rw [pA, pB, lA]
    dsimp only
    cases hh : hidF A k x.1 mA with
    | true =>
      rw [if_pos rfl]
      cases hl : FB.getLast? with
      | none => rfl
      | some y =>
        dsimp only
        have yB := List.mem_of_getLast? hl
        have yx := ylex y ((memB y).mp yB).1
        have hht : strIn (word k) ["host", "told"] = false := by
          cases c : strIn (word k) ["host", "told"] with
          | false => rfl
          | true => unfold hidF at hh; rw [c, if_pos rfl] at hh; cases hh
        have hh' := hh
        unfold hidF at hh'
        rw [hht, if_neg Bool.false_ne_true] at hh'
        obtain ⟨g, hg', hgx⟩ := List.any_eq_true.mp hh'
        rw [Bool.and_eq_true, decide_eq_true_iff, decide_eq_true_iff] at hgx
        rcases List.eq_nil_or_concat (rowsF A (goneK (spaceK k))) with z | ⟨gs, gl, z⟩
        · rw [z] at hg'; cases hg'
        · rw [List.concat_eq_append] at z
          have glm : gl ∈ rowsF A (goneK (spaceK k)) := by rw [z]; simp
          have ga := rowsF_asc (k := goneK (spaceK k)) asc
          have gle : g.1 ≤ gl.1 := by
            rw [z] at hg' ga
            exact asc_last ga g hg'
          have gll : lastF A (goneK (spaceK k)) = gl.1 := by unfold lastF; rw [z, List.getLast?_concat]
          have ⟨kw, kn, kr, ek⟩ := (topF_form hne).1
          have nt : word k ≠ "told" := fun c => by rw [c] at hht; exact absurd hht (by decide)
          have beg : ∃ b, begO A (spaceK k) = some b ∧ b < gl.1 := by
            obtain ⟨r, hr, er, ef, hef, hek⟩ := rowsF_of xr
            refine (begO_lt asc).mpr ⟨r, hr, by omega, ?_⟩
            have hk2 : ef.1 = .inr kw :: .inl kn :: kr := hek.trans ek
            have w1 : word k = kw := by rw [ek]; rfl
            have w2 : spaceK k = kn := by rw [ek]; rfl
            rw [w2]
            exact member_of hef hk2 (by rw [← w1]; exact h1) (by rw [← w1]; exact nt)
          have liveg : LiveO A (goneK (spaceK k)) gl.1 := by
            unfold LiveO
            rw [if_neg (show ¬ word (goneK (spaceK k)) = "host" by show ¬ ("gone" : Str) = "host"; decide), if_pos (show word (goneK (spaceK k)) = "gone" from rfl)]
            exact ⟨gll.symm, beg⟩
          obtain ⟨q, hq, eq⟩ := h.inB glm (List.ne_nil_of_mem glm) liveg
          have hgB : gl ∈ rowsF B (goneK (spaceK k)) := h.mem.mpr ⟨glm, q, hq, eq⟩
          have hgm := hg gl glm
          have : hidF B k y.1 mB = true := by
            unfold hidF
            rw [hht, if_neg Bool.false_ne_true]
            refine List.any_eq_true.mpr ⟨gl, hgB, ?_⟩
            have e2 := hm q hq
            rw [eq, decide_eq_true hgm] at e2
            rw [e2, decide_eq_true (show y.1 < gl.1 by omega)]; rfl
          rw [this, if_pos rfl]
    | false =>
      rw [if_neg Bool.false_ne_true]
      have ls : lastShown A k mA = some x := by
        unfold lastShown
        rw [← hFA, lA]
        dsimp only
        rw [hh, if_neg Bool.false_ne_true]
      by_cases c : noneQ x.2 = false ∨ x.1 ≠ firstO A k
      · have lv : LiveO A k x.1 := by
          unfold LiveO
          rw [if_neg h1, if_neg h2]
          exact ⟨mA, hv, x, ls, rfl, c⟩
        have xB := (memB x).mpr ⟨xA, h.inB xr hne lv⟩
        have lB : FB.getLast? = some x := by
          rcases List.eq_nil_or_concat FB with z | ⟨ys, y, z⟩
          · rw [z] at xB; cases xB
          · rw [List.concat_eq_append] at z
            have yB : y ∈ FB := by rw [z]; simp
            have h3 := ylex y ((memB y).mp yB).1
            rw [z] at xB ascFB
            have h4 := asc_last ascFB x xB
            rcases List.mem_append.mp xB with w | w
            · rw [List.pairwise_append] at ascFB
              have := ascFB.2.2 x w y (by simp)
              omega
            · rw [z, List.getLast?_concat, List.mem_singleton.mp w]
        rw [lB]
        dsimp only
        have : hidF B k x.1 mB = false := by
          cases c2 : hidF B k x.1 mB with
          | false => rfl
          | true =>
            have : hidF A k x.1 mA = true := by
              unfold hidF at c2 ⊢
              split at c2
              · cases c2
              · rename_i c3
                rw [if_neg c3]
                obtain ⟨g, hg1, hg2⟩ := List.any_eq_true.mp c2
                rw [Bool.and_eq_true] at hg2
                obtain ⟨r, hr, er, _⟩ := rowsF_of hg1
                refine List.any_eq_true.mpr ⟨g, (h.mem.mp hg1).1, ?_⟩
                have z := hm r hr
                rw [← er, hg2.2] at z
                rw [hg2.1, ← z]; rfl
            rw [hh] at this; cases this
        rw [this, if_neg Bool.false_ne_true]
      · have c1 : noneQ x.2 = true := by
          cases hq : noneQ x.2 with
          | true => rfl
          | false => exact absurd (.inl hq) c
        have c2 : x.1 = firstO A k := Classical.byContradiction fun z => c (.inr z)
        have x2 : x.2 = .none := by
          generalize x.2 = d at c1
          cases d <;> first | rfl | cases c1
        have one := (one_first (k := k) (m := mA) (x := x) asc (by rw [← hFA]; exact lA)).mpr c2
        rw [← hFA, e, List.length_append, List.length_singleton] at one
        have xs0 : xs = [] := List.length_eq_zero_iff.mp (by omega)
        rw [xs0] at e
        rw [x2]
        cases hl : FB.getLast? with
        | none => rfl
        | some y =>
          dsimp only
          have yB := ((memB y).mp (List.mem_of_getLast? hl)).1
          rw [e] at yB
          have : y = x := by simpa using yB
          rw [this, x2]
          split <;> rfl
theorem Kept.now (h : Kept A B) {k : List Key} (h1 : word k ≠ "host") (h2 : word k ≠ "gone") : progV B k (presentO B) = progV A k (presentO A) :=
  h.value h1 h2 (fun r hr => by rw [decide_eq_true (present_lt h.ascB r hr), decide_eq_true (present_lt h.asc r (h.sub.subset hr))]) (.inl rfl) (fun g hg => by
    obtain ⟨r, hr, e, _⟩ := rowsF_of hg
    rw [e]; exact present_lt h.asc r hr)
theorem snap_prog {rs : List Rc} {n m : Int} : SnapEx rs n m ↔ noneQ (progV rs (snapK n m) (presentO rs)) = false := by
  rw [snapEx_iff]
  unfold progV
  cases lastShown rs (snapK n m) (presentO rs) with
  | none => simp [noneQ]
  | some x => simp
theorem Kept.snaps (h : Kept A B) {n m : Int} : SnapEx B n m ↔ SnapEx A n m := by
  rw [snap_prog, snap_prog, h.now (by show ¬ ("snap" : Str) = "host"; decide) (by show ¬ ("snap" : Str) = "gone"; decide)]
theorem Kept.then_ (h : Kept A B) {k : List Key} {m : Int} (hw : word k = "place") (hs : SnapEx A (spaceK k) m) : progV B k m = progV A k m :=
  h.value (by rw [hw]; decide) (by rw [hw]; decide) (fun _ _ => rfl) (.inr ⟨hw, hs⟩) (gone_before h.asc hs)
end
theorem kept_of {A B : List Rc} (asc : A.Pairwise (fun x y => x.o < y.o)) (sub : B.Sublist A) (h : ∀ r ∈ progL A, r ∈ B) : Kept A B :=
  ⟨asc, sub, fun r hr hl => h r (List.mem_filter.mpr ⟨hr, @decide_eq_true _ (Classical.propDecidable _) hl⟩)⟩
/-- B says of every topic and view what A says -/
structure Says (A B : List Rc) : Prop where
  now : ∀ k, word k ≠ "host" → word k ≠ "gone" → progV B k (presentO B) = progV A k (presentO A)
  then_ : ∀ k m, word k = "place" → SnapEx A (spaceK k) m → progV B k m = progV A k m
  snaps : ∀ n m, SnapEx B n m ↔ SnapEx A n m
theorem Says.refl (A : List Rc) : Says A A := ⟨fun _ _ _ => rfl, fun _ _ _ _ => rfl, fun _ _ => Iff.rfl⟩
theorem Says.step {A B C : List Rc} (h : Says A B) (g : Kept B C) : Says A C :=
  ⟨fun k h1 h2 => (g.now h1 h2).trans (h.now k h1 h2), fun k m hw hs => (g.then_ hw ((h.snaps _ _).mpr hs)).trans (h.then_ k m hw hs), fun n m => g.snaps.trans (h.snaps n m)⟩
end Sg

set_option Elab.async false
set_option linter.all false
set_option maxRecDepth 100000
set_option maxHeartbeats 4000000
namespace Sg
open PySem PySem.Spec PyProof.Rows L2
/-! ### what is shown now, record by record -/
def nowV (rs : List Rc) (k : List Key) : PyData := progV rs k (presentO rs)
def AscR (rs : List Rc) : Prop := rs.Pairwise fun x y => x.o < y.o
theorem rows_lt {rs : List Rc} (asc : AscR rs) {k : List Key} {x : Rw} (h : x ∈ rowsF rs k) : x.1 < presentO rs := by
  obtain ⟨r, hr, e, _⟩ := rowsF_of h
  rw [e]; exact present_lt asc r hr
theorem nowV_eq {rs : List Rc} (asc : AscR rs) (k : List Key) : nowV rs k = match (rowsF rs k).getLast? with
    | none => .none
    | some x => if strIn (word k) ["host", "told"] = true then x.2 else if ((rowsF rs (goneK (spaceK k))).any fun g => decide (x.1 < g.1)) = true then .none else x.2 := by
  have e1 : ((rowsF rs k).filter fun x => decide (x.1 < presentO rs)) = rowsF rs k := List.filter_eq_self.mpr fun x hx => decide_eq_true (rows_lt asc hx)
  unfold nowV progV lastShown
  rw [e1]
  cases (rowsF rs k).getLast? with
  | none => rfl
  | some x =>
    unfold hidF
    have e2 : ((rowsF rs (goneK (spaceK k))).any fun g => decide (x.1 < g.1) && decide (g.1 < presentO rs)) = (rowsF rs (goneK (spaceK k))).any fun g => decide (x.1 < g.1) := by
      rw [Bool.eq_iff_iff, List.any_eq_true, List.any_eq_true]
      constructor
      · rintro ⟨g, hg, h⟩
        exact ⟨g, hg, (Bool.and_eq_true _ _ ▸ h).1⟩
      · rintro ⟨g, hg, h⟩
        exact ⟨g, hg, by rw [h, decide_eq_true (rows_lt asc hg)]; rfl⟩
    show (match (if (if strIn (word k) ["host", "told"] = true then false else (rowsF rs (goneK (spaceK k))).any fun g => decide (x.1 < g.1) && decide (g.1 < presentO rs)) = true then none else some x) with
      | none => PyData.none
      | some x => x.2) = if strIn (word k) ["host", "told"] = true then x.2 else if ((rowsF rs (goneK (spaceK k))).any fun g => decide (x.1 < g.1)) = true then .none else x.2
    rw [e2]
    cases strIn (word k) ["host", "told"] with
    | true => rfl
    | false =>
      cases (rowsF rs (goneK (spaceK k))).any fun g => decide (x.1 < g.1) with
      | true => rfl
      | false => rfl
/-- the value that a record says of a topic -/
def saysR (r : Rc) (k : List Key) : Option PyData := ((rowsE r.o k (effR r)).getLast?).map (·.2)
theorem rowsE_ord {o : Int} {k : List Key} {es : List Ef} {x : Rw} (h : x ∈ rowsE o k es) : x.1 = o := rowsE_o x h
theorem ascR_snoc {rs : List Rc} {r : Rc} (h : AscR (rs ++ [r])) : AscR rs ∧ ∀ q ∈ rs, q.o < r.o := by
  obtain ⟨a, _, c⟩ := List.pairwise_append.mp h
  exact ⟨a, fun q hq => c q hq r (List.mem_singleton.mpr rfl)⟩
theorem rows_before {rs : List Rc} {r : Rc} (h : AscR (rs ++ [r])) {k : List Key} {x : Rw} (hx : x ∈ rowsF rs k) : x.1 < r.o := by
  obtain ⟨q, hq, e, _⟩ := rowsF_of hx
  rw [e]; exact (ascR_snoc h).2 q hq
theorem gone_rows {r : Rc} {n : Int} : rowsE r.o (goneK n) (effR r) = [] ∨ (r.b = .remove n ∧ ∃ x, rowsE r.o (goneK n) (effR r) = [x] ∧ x.1 = r.o) := by
  cases e : rowsE r.o (goneK n) (effR r) with
  | nil => exact .inl rfl
  | cons x l =>
    have hl : (rowsE r.o (goneK n) (effR r)).length ≤ 1 := rowsER_le
    rw [e] at hl
    have : l = [] := by cases l with | nil => rfl | cons y z => simp at hl
    subst this
    have hx : x ∈ rowsE r.o (goneK n) (effR r) := by rw [e]; simp
    obtain ⟨ef, h1, h2⟩ := rowsE_of hx
    exact .inr ⟨hasK_gone.mp ⟨ef, h1, h2⟩, x, rfl, rowsE_ord hx⟩
theorem rows_gone {r : Rc} {n : Int} (h : r.b = .remove n) : ∃ x, rowsE r.o (goneK n) (effR r) = [x] ∧ x.1 = r.o := by
  rcases gone_rows (r := r) (n := n) with e | ⟨_, x, hx⟩
  · obtain ⟨ef, h1, h2⟩ := hasK_gone.mpr h
    unfold rowsE at e
    rw [List.filterMap_eq_nil_iff] at e
    have := e ef h1
    rw [if_pos h2] at this; cases this
  · exact ⟨x, hx⟩
theorem nowV_snoc {rs : List Rc} {r : Rc} (h : AscR (rs ++ [r])) (k : List Key) : nowV (rs ++ [r]) k = match saysR r k with
    | some v => v
    | none => if strIn (word k) ["host", "told"] = false ∧ isRem r.b (spaceK k) = true then .none else nowV rs k := by
  have asc := (ascR_snoc h).1
  rw [nowV_eq h, rowsF_snoc]
  cases e : rowsE r.o k (effR r) with
  | cons x l =>
    have hl : (rowsE r.o k (effR r)).length ≤ 1 := rowsER_le
    rw [e] at hl
    have : l = [] := by cases l with | nil => rfl | cons y z => simp at hl
    subst this
    have hx : x ∈ rowsE r.o k (effR r) := by rw [e]; simp
    have ho := rowsE_ord hx
    have es : saysR r k = some x.2 := by unfold saysR; rw [e]; rfl
    rw [es, List.getLast?_concat]
    have ng : ((rowsF (rs ++ [r]) (goneK (spaceK k))).any fun g => decide (x.1 < g.1)) = false := by
      rw [List.any_eq_false]
      intro g hg
      have := rows_lt h hg
      obtain ⟨q, hq, eq, _⟩ := rowsF_of hg
      have : q.o ≤ r.o := by
        rcases List.mem_append.mp hq with hq | hq
        · exact Int.le_of_lt ((ascR_snoc h).2 q hq)
        · rw [List.mem_singleton.mp hq]; exact Int.le_refl _
      simp; omega
    show (if strIn (word k) ["host", "told"] = true then x.2 else if ((rowsF (rs ++ [r]) (goneK (spaceK k))).any fun g => decide (x.1 < g.1)) = true then .none else x.2) = x.2
    rw [ng]
    split <;> rfl
  | nil =>
    have es : saysR r k = none := by unfold saysR; rw [e]; rfl
    rw [es, List.append_nil, nowV_eq asc]
    cases hl : (rowsF rs k).getLast? with
    | none =>
      show PyData.none = if strIn (word k) ["host", "told"] = false ∧ isRem r.b (spaceK k) = true then .none else .none
      split <;> rfl
    | some x =>
      have hx : x ∈ rowsF rs k := List.mem_of_getLast? hl
      show (if strIn (word k) ["host", "told"] = true then x.2 else if ((rowsF (rs ++ [r]) (goneK (spaceK k))).any fun g => decide (x.1 < g.1)) = true then .none else x.2) = if strIn (word k) ["host", "told"] = false ∧ isRem r.b (spaceK k) = true then .none else (if strIn (word k) ["host", "told"] = true then x.2 else if ((rowsF rs (goneK (spaceK k))).any fun g => decide (x.1 < g.1)) = true then .none else x.2)
      rw [rowsF_snoc]
      cases ht : strIn (word k) ["host", "told"] with
      | true => rw [if_pos rfl, if_neg (by simp), if_pos rfl]
      | false =>
        rw [if_neg Bool.false_ne_true, if_neg Bool.false_ne_true]
        rcases gone_rows (r := r) (n := spaceK k) with eg | ⟨er, g, eg, og⟩
        · rw [eg, List.append_nil]
          have nr : ¬ r.b = .remove (spaceK k) := fun z => by
            obtain ⟨y, hy, _⟩ := rows_gone z
            rw [eg] at hy; cases hy
          rw [if_neg (show ¬ (false = false ∧ isRem r.b (spaceK k) = true) from fun z => nr (isRem_iff.mp z.2))]
        · rw [eg, if_pos (show false = false ∧ isRem r.b (spaceK k) = true from ⟨rfl, isRem_iff.mpr er⟩)]
          refine if_pos ?_
          rw [List.any_append, Bool.or_eq_true]
          right
          simp [og, rows_before h hx]
/-- an older view stays as it is -/
theorem then_snoc {rs : List Rc} {r : Rc} (k : List Key) {m : Int} (hm : m ≤ r.o) : progV (rs ++ [r]) k m = progV rs k m := by
  have e1 : ∀ k', ((rowsF (rs ++ [r]) k').filter fun x => decide (x.1 < m)) = (rowsF rs k').filter fun x => decide (x.1 < m) := fun k' => by
    rw [rowsF_snoc, List.filter_append]
    have : (rowsE r.o k' (effR r)).filter (fun x => decide (x.1 < m)) = [] := by
      rw [List.filter_eq_nil_iff]
      intro x hx
      have := rowsE_ord hx
      simp; omega
    rw [this, List.append_nil]
  have e2 : ∀ o, hidF (rs ++ [r]) k o m = hidF rs k o m := fun o => by
    unfold hidF
    split
    · rfl
    · rw [rowsF_snoc, List.any_append]
      have : ((rowsE r.o (goneK (spaceK k)) (effR r)).any fun x => decide (o < x.1) && decide (x.1 < m)) = false := by
        rw [List.any_eq_false]
        intro x hx
        have := rowsE_ord hx
        have : decide (x.1 < m) = false := decide_eq_false (by omega)
        rw [this, Bool.and_false]; exact Bool.false_ne_true
      rw [this, Bool.or_false]
  unfold progV lastShown
  rw [e1]
  cases ((rowsF rs k).filter fun x => decide (x.1 < m)).getLast? with
  | none => rfl
  | some x =>
    show (match (if hidF (rs ++ [r]) k x.1 m = true then none else some x) with | none => PyData.none | some x => x.2) = match (if hidF rs k x.1 m = true then none else some x) with | none => PyData.none | some x => x.2
    rw [e2]
/-- the view of the last record is the present before it -/
theorem then_now {rs : List Rc} (asc : AscR rs) (k : List Key) {m : Int} (hm : ∀ r ∈ rs, r.o < m) : progV rs k m = nowV rs k := by
  have lt : ∀ k' x, x ∈ rowsF rs k' → x.1 < m := fun k' x hx => by
    obtain ⟨q, hq, e, _⟩ := rowsF_of hx
    rw [e]; exact hm q hq
  have e1 : ((rowsF rs k).filter fun x => decide (x.1 < m)) = (rowsF rs k).filter fun x => decide (x.1 < presentO rs) := by
    refine List.filter_congr fun x hx => ?_
    rw [decide_eq_true (lt k x hx), decide_eq_true (rows_lt asc hx)]
  have e2 : ∀ o, hidF rs k o m = hidF rs k o (presentO rs) := fun o => by
    unfold hidF
    split
    · rfl
    · rw [Bool.eq_iff_iff, List.any_eq_true, List.any_eq_true]
      constructor
      · rintro ⟨g, hg, h⟩
        exact ⟨g, hg, by have h1 := (Bool.and_eq_true_iff.mp h).1; rw [h1, decide_eq_true (rows_lt asc hg)]; rfl⟩
      · rintro ⟨g, hg, h⟩
        exact ⟨g, hg, by have h1 := (Bool.and_eq_true_iff.mp h).1; rw [h1, decide_eq_true (lt _ g hg)]; rfl⟩
  unfold nowV progV lastShown
  rw [e1]
  cases ((rowsF rs k).filter fun x => decide (x.1 < presentO rs)).getLast? with
  | none => rfl
  | some x =>
    show (match (if hidF rs k x.1 m = true then none else some x) with | none => PyData.none | some x => x.2) = match (if hidF rs k x.1 (presentO rs) = true then none else some x) with | none => PyData.none | some x => x.2
    rw [e2]
end Sg

set_option Elab.async false
set_option linter.all false
set_option maxRecDepth 100000
set_option maxHeartbeats 4000000
namespace Sg
open PySem PySem.Spec PyProof.Rows L2
/-! ### what a record says of each topic -/
def spT (n : Int) : List Key := [.inr "space", .inl n]
def plT (n p : Int) : List Key := [.inr "place", .inl n, .inl p]
def keT (n h : Int) : List Key := [.inr "key", .inl n, .inl h]
def hoT (n : Int) : List Key := [.inr "hold", .inl n]
def toT (h : Int) : List Key := [.inr "told", .inl h]
theorem w1 : ¬ (("host" : Str) = "space") := by decide +kernel
theorem w2 : ¬ (("told" : Str) = "space") := by decide +kernel
theorem w3 : ¬ (("gone" : Str) = "space") := by decide +kernel
theorem w4 : ¬ (("place" : Str) = "space") := by decide +kernel
theorem w5 : ¬ (("snap" : Str) = "space") := by decide +kernel
theorem w6 : ¬ (("key" : Str) = "space") := by decide +kernel
theorem w7 : ¬ (("hold" : Str) = "space") := by decide +kernel
theorem w11 : ¬ (("host" : Str) = "place") := by decide +kernel
theorem w12 : ¬ (("told" : Str) = "place") := by decide +kernel
theorem w13 : ¬ (("gone" : Str) = "place") := by decide +kernel
theorem w14 : ¬ (("space" : Str) = "place") := by decide +kernel
theorem w15 : ¬ (("snap" : Str) = "place") := by decide +kernel
theorem w16 : ¬ (("key" : Str) = "place") := by decide +kernel
theorem w17 : ¬ (("hold" : Str) = "place") := by decide +kernel
theorem w21 : ¬ (("host" : Str) = "key") := by decide +kernel
theorem w22 : ¬ (("told" : Str) = "key") := by decide +kernel
theorem w23 : ¬ (("gone" : Str) = "key") := by decide +kernel
theorem w24 : ¬ (("space" : Str) = "key") := by decide +kernel
theorem w25 : ¬ (("snap" : Str) = "key") := by decide +kernel
theorem w26 : ¬ (("place" : Str) = "key") := by decide +kernel
theorem w27 : ¬ (("hold" : Str) = "key") := by decide +kernel
theorem w31 : ¬ (("host" : Str) = "hold") := by decide +kernel
theorem w32 : ¬ (("told" : Str) = "hold") := by decide +kernel
theorem w33 : ¬ (("gone" : Str) = "hold") := by decide +kernel
theorem w34 : ¬ (("space" : Str) = "hold") := by decide +kernel
theorem w35 : ¬ (("snap" : Str) = "hold") := by decide +kernel
theorem w36 : ¬ (("place" : Str) = "hold") := by decide +kernel
theorem w37 : ¬ (("key" : Str) = "hold") := by decide +kernel
theorem w41 : ¬ (("host" : Str) = "snap") := by decide +kernel
theorem w42 : ¬ (("told" : Str) = "snap") := by decide +kernel
theorem w43 : ¬ (("gone" : Str) = "snap") := by decide +kernel
theorem w44 : ¬ (("space" : Str) = "snap") := by decide +kernel
theorem w45 : ¬ (("hold" : Str) = "snap") := by decide +kernel
theorem w46 : ¬ (("place" : Str) = "snap") := by decide +kernel
theorem w47 : ¬ (("key" : Str) = "snap") := by decide +kernel
theorem w51 : ¬ (("host" : Str) = "told") := by decide +kernel
theorem w52 : ¬ (("snap" : Str) = "told") := by decide +kernel
theorem w53 : ¬ (("gone" : Str) = "told") := by decide +kernel
theorem w54 : ¬ (("space" : Str) = "told") := by decide +kernel
theorem w55 : ¬ (("hold" : Str) = "told") := by decide +kernel
theorem w56 : ¬ (("place" : Str) = "told") := by decide +kernel
theorem w57 : ¬ (("key" : Str) = "told") := by decide +kernel
theorem says_sp {r : Rc} {n : Int} : saysR r (spT n) = match r.b with
    | .make n' z => if n' = n then some (.int z) else none
    | _ => none := by
  obtain ⟨o, h, s, c, b⟩ := r
  cases b with
  | leave m hb => cases hb <;> simp [saysR, rowsE, effR, effH, effB, spT, w1, w2, w3, w4, w5, w6, w7]
  | preempt m v w => cases w <;> simp [saysR, rowsE, effR, effH, effB, spT, w1, w2, w3, w4, w5, w6, w7]
  | make m z => by_cases e : m = n <;> simp [saysR, rowsE, effR, effH, effB, spT, w1, w2, w3, w4, w5, w6, w7, e]
  | _ => simp [saysR, rowsE, effR, effH, effB, spT, w1, w2, w3, w4, w5, w6, w7]
theorem says_pl {r : Rc} {n p : Int} : saysR r (plT n p) = match r.b with
    | .write n' p' v => if n' = n ∧ p' = p then some (.int v) else none
    | .trim n' p' => if n' = n ∧ p' = p then some .none else none
    | _ => none := by
  obtain ⟨o, h, s, c, b⟩ := r
  cases b with
  | leave m hb => cases hb <;> simp [saysR, rowsE, effR, effH, effB, plT, w11, w12, w13, w14, w15, w16, w17]
  | preempt m v w => cases w <;> simp [saysR, rowsE, effR, effH, effB, plT, w11, w12, w13, w14, w15, w16, w17]
  | write m q v => by_cases e : m = n <;> by_cases f : q = p <;> simp [saysR, rowsE, effR, effH, effB, plT, w11, w12, w13, w14, w15, w16, w17, e, f]
  | trim m q => by_cases e : m = n <;> by_cases f : q = p <;> simp [saysR, rowsE, effR, effH, effB, plT, w11, w12, w13, w14, w15, w16, w17, e, f]
  | _ => simp [saysR, rowsE, effR, effH, effB, plT, w11, w12, w13, w14, w15, w16, w17]
theorem says_ke {r : Rc} {n x : Int} : saysR r (keT n x) = match r.b with
    | .register n' => if n' = n ∧ r.h = x then some (.int r.o) else none
    | .leave n' _ => if n' = n ∧ r.h = x then some .none else none
    | .preempt n' v _ => if n' = n ∧ v = x then some .none else none
    | _ => none := by
  obtain ⟨o, h, s, c, b⟩ := r
  cases b with
  | leave m hb => cases hb <;> by_cases e : m = n <;> by_cases f : h = x <;> simp [saysR, rowsE, effR, effH, effB, keT, w21, w22, w23, w24, w25, w26, w27, e, f]
  | preempt m v w => cases w <;> by_cases e : m = n <;> by_cases f : v = x <;> simp [saysR, rowsE, effR, effH, effB, keT, w21, w22, w23, w24, w25, w26, w27, e, f]
  | register m => by_cases e : m = n <;> by_cases f : h = x <;> simp [saysR, rowsE, effR, effH, effB, keT, w21, w22, w23, w24, w25, w26, w27, e, f]
  | _ => simp [saysR, rowsE, effR, effH, effB, keT, w21, w22, w23, w24, w25, w26, w27]
theorem says_ho {r : Rc} {n : Int} : saysR r (hoT n) = match r.b with
    | .leave n' true => if n' = n then some .none else none
    | .reserve n' w => if n' = n then some (.tuple [.int r.h, .str w]) else none
    | .release n' => if n' = n then some .none else none
    | .preempt n' _ (some w) => if n' = n then some (.tuple [.int r.h, .str w]) else none
    | _ => none := by
  obtain ⟨o, h, s, c, b⟩ := r
  cases b with
  | leave m hb => cases hb <;> by_cases e : m = n <;> simp [saysR, rowsE, effR, effH, effB, hoT, w31, w32, w33, w34, w35, w36, w37, e]
  | preempt m v w => cases w <;> by_cases e : m = n <;> simp [saysR, rowsE, effR, effH, effB, hoT, w31, w32, w33, w34, w35, w36, w37, e]
  | reserve m w => by_cases e : m = n <;> simp [saysR, rowsE, effR, effH, effB, hoT, w31, w32, w33, w34, w35, w36, w37, e]
  | release m => by_cases e : m = n <;> simp [saysR, rowsE, effR, effH, effB, hoT, w31, w32, w33, w34, w35, w36, w37, e]
  | _ => simp [saysR, rowsE, effR, effH, effB, hoT, w31, w32, w33, w34, w35, w36, w37]
theorem says_sn {r : Rc} {n m : Int} : saysR r (snapK n m) = match r.b with
    | .snap n' => if n' = n ∧ r.o = m then some (.int r.o) else none
    | .drop n' s => if n' = n ∧ s = m then some .none else none
    | _ => none := by
  obtain ⟨o, h, s, c, b⟩ := r
  cases b with
  | leave j hb => cases hb <;> simp [saysR, rowsE, effR, effH, effB, snapK, w41, w42, w43, w44, w45, w46, w47]
  | preempt j v w => cases w <;> simp [saysR, rowsE, effR, effH, effB, snapK, w41, w42, w43, w44, w45, w46, w47]
  | snap j => by_cases e : j = n <;> by_cases f : o = m <;> simp [saysR, rowsE, effR, effH, effB, snapK, w41, w42, w43, w44, w45, w46, w47, e, f]
  | drop j k => by_cases e : j = n <;> by_cases f : k = m <;> simp [saysR, rowsE, effR, effH, effB, snapK, w41, w42, w43, w44, w45, w46, w47, e, f]
  | _ => simp [saysR, rowsE, effR, effH, effB, snapK, w41, w42, w43, w44, w45, w46, w47]
theorem says_to {r : Rc} {x : Int} : saysR r (toT x) = match r.b with
    | .mark d => if r.h = x then some d else none
    | _ => none := by
  obtain ⟨o, h, s, c, b⟩ := r
  cases b with
  | leave j hb => cases hb <;> simp [saysR, rowsE, effR, effH, effB, toT, w51, w52, w53, w54, w55, w56, w57]
  | preempt j v w => cases w <;> simp [saysR, rowsE, effR, effH, effB, toT, w51, w52, w53, w54, w55, w56, w57]
  | mark d => by_cases e : h = x <;> simp [saysR, rowsE, effR, effH, effB, toT, w51, w52, w53, w54, w55, w56, w57, e]
  | _ => simp [saysR, rowsE, effR, effH, effB, toT, w51, w52, w53, w54, w55, w56, w57]
end Sg

set_option Elab.async false
set_option linter.all false
set_option maxRecDepth 100000
set_option maxHeartbeats 4000000
namespace Sg
open PySem PySem.Spec PyProof.Rows L2
/-! ### what a record does to a space and to a snapshot -/
theorem lk_del {α β : Type} [DecidableEq α] {k j : α} : ∀ {l : List (α × β)}, lookI (delI l k) j = if j = k then none else lookI l j
  | [] => by
    show none = if j = k then none else none
    split <;> rfl
  | (a, v) :: l => by
    have ih := lk_del (k := k) (j := j) (l := l)
    by_cases e : a = k
    · have : delI ((a, v) :: l) k = delI l k := List.filter_cons_of_neg (by simp [e])
      rw [this, ih]
      by_cases z : j = k
      · rw [if_pos z, if_pos z]
      · rw [if_neg z, if_neg z]
        have : ¬ a = j := fun y => z (y.symm.trans e)
        simp [lookI, this]
    · have : delI ((a, v) :: l) k = (a, v) :: delI l k := List.filter_cons_of_pos (by simp [e])
      rw [this]
      by_cases z : a = j
      · subst z
        rw [if_neg e]; simp [lookI]
      · have e1 : lookI ((a, v) :: delI l k) j = lookI (delI l k) j := by simp [lookI, z]
        have e2 : lookI ((a, v) :: l) j = lookI l j := by simp [lookI, z]
        rw [e1, e2, ih]
theorem lk_app {α β : Type} [DecidableEq α] {k j : α} {v : β} : ∀ {l : List (α × β)}, lookI (l ++ [(k, v)]) j = (lookI l j).or (if j = k then some v else none)
  | [] => by
    by_cases z : k = j
    · subst z; simp [lookI]
    · have : ¬ j = k := fun y => z y.symm
      simp [lookI, z, this]
  | (a, w) :: l => by
    by_cases z : a = j
    · subst z; simp [lookI]
    · have e1 : lookI ((a, w) :: l ++ [(k, v)]) j = lookI (l ++ [(k, v)]) j := by simp [lookI, z]
      have e2 : lookI ((a, w) :: l) j = lookI l j := by simp [lookI, z]
      rw [e1, e2, lk_app]
theorem lk_put {α β : Type} [DecidableEq α] {l : List (α × β)} {k j : α} {v : β} : lookI (putI l k v) j = if j = k then some v else lookI l j := by
  unfold putI
  rw [lk_app, lk_del]
  by_cases z : j = k
  · rw [if_pos z, if_pos z, if_pos z]; rfl
  · rw [if_neg z, if_neg z, if_neg z]
    cases lookI l j <;> rfl
theorem lk_set {α β : Type} [DecidableEq α] {l : List (α × β)} {k j : α} {v : Option β} : lookI (setI l k v) j = if j = k then v else lookI l j := by
  cases v with
  | none => exact lk_del
  | some v => exact lk_put
theorem lk_filter {α β : Type} [DecidableEq α] {p : α → Bool} {j : α} : ∀ {l : List (α × β)}, lookI (l.filter fun x => p x.1) j = if p j = true then lookI l j else none
  | [] => by
    show none = if p j = true then none else none
    split <;> rfl
  | (a, v) :: l => by
    have ih := lk_filter (p := p) (j := j) (l := l)
    by_cases e : p a = true
    · rw [List.filter_cons_of_pos (by simpa using e)]
      by_cases z : a = j
      · subst z; rw [if_pos e]; simp [lookI]
      · have e1 : lookI ((a, v) :: l.filter fun x => p x.1) j = lookI (l.filter fun x => p x.1) j := by simp [lookI, z]
        have e2 : lookI ((a, v) :: l) j = lookI l j := by simp [lookI, z]
        rw [e1, e2, ih]
    · rw [List.filter_cons_of_neg (by simpa using e), ih]
      by_cases z : a = j
      · subst z; rw [if_neg e, if_neg e]
      · have e2 : lookI ((a, v) :: l) j = lookI l j := by simp [lookI, z]
        rw [e2]
theorem lk_out {rg : List (Int × Int)} {h j : Int} : lookI (outR rg h) j = if j = h then none else lookI rg j := by
  have : outR rg h = delI rg h := by
    unfold outR delI
    refine List.filter_congr fun x _ => ?_
    simp
  rw [this]; exact lk_del
theorem lk_perm {α β : Type} [DecidableEq α] {l m : List (α × β)} (p : l.Perm m) (nd : (l.map (·.1)).Nodup) (j : α) : lookI l j = lookI m j := by
  have ndm : (m.map (·.1)).Nodup := (p.map _).nodup_iff.mp nd
  have of : ∀ {l : List (α × β)} {k : α} {v : β}, (l.map (·.1)).Nodup → (k, v) ∈ l → lookI l k = some v := fun {l k v} nd h => by
    induction l with
    | nil => cases h
    | cons x l ih =>
      obtain ⟨a, b⟩ := x
      have nd' : a ∉ l.map (·.1) ∧ (l.map (·.1)).Nodup := List.nodup_cons.mp nd
      rcases List.mem_cons.mp h with e | h
      · cases e; simp [lookI]
      · have ne : ¬ a = k := fun e => nd'.1 (e ▸ List.mem_map.mpr ⟨_, h, rfl⟩)
        have := ih nd'.2 h
        simp [lookI, ne] at this ⊢
        exact this
  cases e : lookI l j with
  | some v => exact (of ndm (p.mem_iff.mp (look_mem e))).symm
  | none =>
    cases e2 : lookI m j with
    | none => rfl
    | some v =>
      have := of nd (p.mem_iff.mpr (look_mem e2))
      rw [e] at this; cases this
theorem lk_ins {rg : List (Int × Int)} {h k j : Int} (nd : (rg.map (·.1)).Nodup) : lookI (insR rg h k) j = if j = h then some k else lookI rg j := by
  rw [lk_perm ins_perm (ins_nodup nd) j, lk_app, lk_out]
  by_cases z : j = h
  · rw [if_pos z, if_pos z, if_pos z]; rfl
  · rw [if_neg z, if_neg z, if_neg z]
    cases lookI rg j <;> rfl
def newSp (n : Int) (r : Rc) (os : Option Spc) : Option Spc := match r.b with
  | .make n' z => if n = n' then some ⟨z, [], [], none⟩ else os
  | .remove n' => if n = n' then none else os
  | .write n' p v => if n = n' then os.map fun s => { s with cs := setI s.cs p (some v) } else os
  | .trim n' p => if n = n' then os.map fun s => { s with cs := setI s.cs p none } else os
  | .register n' => if n = n' then os.map fun s => { s with rg := insR s.rg r.h r.o } else os
  | .leave n' false => if n = n' then os.map fun s => { s with rg := outR s.rg r.h } else os
  | .leave n' true => if n = n' then os.map fun s => { s with rg := outR s.rg r.h, hd := none } else os
  | .reserve n' w => if n = n' then os.map fun s => { s with hd := some (r.h, w) } else os
  | .release n' => if n = n' then os.map fun s => { s with hd := none } else os
  | .preempt n' v none => if n = n' then os.map fun s => { s with rg := outR s.rg v } else os
  | .preempt n' v (some w) => if n = n' then os.map fun s => { s with rg := outR s.rg v, hd := some (r.h, w) } else os
  | _ => os
theorem one_sp {e : Eff} {m n : Int} {f : Spc → Spc} {st : Sta} (he : ∀ st : Sta, afterE e st = match lookI st.sp m with | none => st | some s => within s e st) (hw : ∀ s st, (within s e st).sp = putI st.sp m (f s)) :
    lookI (afterE e st).sp n = if n = m then (lookI st.sp n).map f else lookI st.sp n := by
  rw [he]
  cases l : lookI st.sp m with
  | none =>
    show lookI st.sp n = _
    by_cases z : n = m
    · subst z; rw [if_pos rfl, l]; rfl
    · rw [if_neg z]
  | some sp =>
    show lookI (within sp e st).sp n = _
    rw [hw, lk_put]
    by_cases z : n = m
    · subst z; rw [if_pos rfl, if_pos rfl, l]; rfl
    · rw [if_neg z, if_neg z]
theorem no_sp {e : Eff} {m n : Int} {st : Sta} (he : ∀ st : Sta, afterE e st = match lookI st.sp m with | none => st | some s => within s e st) (hw : ∀ s st, (within s e st).sp = st.sp) : lookI (afterE e st).sp n = lookI st.sp n := by
  rw [he]
  cases l : lookI st.sp m with
  | none => rfl
  | some sp => show lookI (within sp e st).sp n = _; rw [hw]
theorem no_sn {e : Eff} {m : Int} {q : Int × Int} {st : Sta} (he : ∀ st : Sta, afterE e st = match lookI st.sp m with | none => st | some s => within s e st) (hw : ∀ s st, (within s e st).sn = st.sn) : lookI (afterE e st).sn q = lookI st.sn q := by
  rw [he]
  cases l : lookI st.sp m with
  | none => rfl
  | some sp => show lookI (within sp e st).sn q = _; rw [hw]
/-- the state behind the host's mark -/
def st0 (st : Sta) (r : Rc) : Sta := afterE (.host r.h r.s r.c (answD (kindS r.b) r.o)) { st with o := r.o }
theorem st0_sp {st : Sta} {r : Rc} : (st0 st r).sp = st.sp := rfl
theorem st0_sn {st : Sta} {r : Rc} : (st0 st r).sn = st.sn := rfl
theorem ifmap {α β γ : Type} {c : Prop} [Decidable c] {f : α → α} {g : α → α} {o : Option α} : (if c then (if c then o.map f else o).map g else (if c then o.map f else o)) = if c then o.map (fun s => g (f s)) else o := by
  by_cases z : c
  · rw [if_pos z, if_pos z, if_pos z]; cases o <;> rfl
  · rw [if_neg z, if_neg z, if_neg z]
theorem look_sp {st : Sta} {r : Rc} {n : Int} : lookI (afterR st r).sp n = newSp n r (lookI st.sp n) := by
  obtain ⟨o, h, s, c, b⟩ := r
  cases b with
  | mark d =>
    show lookI (afterE (.told h d) (st0 st ⟨o, h, s, c, .mark d⟩)).sp n = lookI st.sp n
    unfold afterE
    dsimp only
    split <;> rfl
  | make m z => exact lk_put
  | remove m =>
    show lookI (match lookI st.sp m with | none => _ | some s => _ : Sta).sp n = if n = m then none else lookI st.sp n
    cases e : lookI st.sp m with
    | none =>
      show lookI st.sp n = _
      by_cases z : n = m
      · subst z; rw [if_pos rfl, e]
      · rw [if_neg z]
    | some sp => exact lk_del
  | write m p v => exact one_sp (e := .place m p (some v)) (f := fun s => { s with cs := setI s.cs p (some v) }) (st := st0 st ⟨o, h, s, c, .write m p v⟩) (fun _ => rfl) (fun _ _ => rfl)
  | trim m p => exact one_sp (e := .place m p none) (f := fun s => { s with cs := setI s.cs p none }) (st := st0 st ⟨o, h, s, c, .trim m p⟩) (fun _ => rfl) (fun _ _ => rfl)
  | snap m => exact no_sp (e := .snap m o (some o)) (m := m) (st := st0 st ⟨o, h, s, c, .snap m⟩) (fun _ => rfl) (fun _ _ => rfl)
  | drop m k => exact no_sp (e := .snap m k none) (m := m) (st := st0 st ⟨o, h, s, c, .drop m k⟩) (fun _ => rfl) (fun _ _ => rfl)
  | register m => exact one_sp (e := .key m h (some o)) (f := fun s => { s with rg := insR s.rg h o }) (st := st0 st ⟨o, h, s, c, .register m⟩) (fun _ => rfl) (fun _ _ => rfl)
  | leave m held =>
    cases held with
    | false => exact one_sp (e := .key m h none) (f := fun s => { s with rg := outR s.rg h }) (st := st0 st ⟨o, h, s, c, .leave m false⟩) (fun _ => rfl) (fun _ _ => rfl)
    | true =>
      have a := one_sp (n := n) (e := .key m h none) (f := fun s => { s with rg := outR s.rg h }) (st := st0 st ⟨o, h, s, c, .leave m true⟩) (fun _ => rfl) (fun _ _ => rfl)
      have b := one_sp (n := n) (e := .hold m none) (f := fun s => { s with hd := none }) (st := afterE (.key m h none) (st0 st ⟨o, h, s, c, .leave m true⟩)) (fun _ => rfl) (fun _ _ => rfl)
      rw [a] at b
      exact b.trans (ifmap (γ := Unit) (β := Unit))
  | reserve m w => exact one_sp (e := .hold m (some (h, w))) (f := fun s => { s with hd := some (h, w) }) (st := st0 st ⟨o, h, s, c, .reserve m w⟩) (fun _ => rfl) (fun _ _ => rfl)
  | release m => exact one_sp (e := .hold m none) (f := fun s => { s with hd := none }) (st := st0 st ⟨o, h, s, c, .release m⟩) (fun _ => rfl) (fun _ _ => rfl)
  | preempt m v w =>
    cases w with
    | none => exact one_sp (e := .key m v none) (f := fun s => { s with rg := outR s.rg v }) (st := st0 st ⟨o, h, s, c, .preempt m v none⟩) (fun _ => rfl) (fun _ _ => rfl)
    | some w =>
      have a := one_sp (n := n) (e := .key m v none) (f := fun s => { s with rg := outR s.rg v }) (st := st0 st ⟨o, h, s, c, .preempt m v (some w)⟩) (fun _ => rfl) (fun _ _ => rfl)
      have b := one_sp (n := n) (e := .hold m (some (h, w))) (f := fun s => { s with hd := some (h, w) }) (st := afterE (.key m v none) (st0 st ⟨o, h, s, c, .preempt m v (some w)⟩)) (fun _ => rfl) (fun _ _ => rfl)
      rw [a] at b
      exact b.trans (ifmap (γ := Unit) (β := Unit))
def newSn (n m : Int) (r : Rc) (os : Option Spc) (oc : Option Cells) : Option Cells := match r.b with
  | .remove n' => if n = n' then (match os with | none => oc | some _ => none) else oc
  | .snap n' => if n = n' ∧ m = r.o then (match os with | none => oc | some s => some s.cs) else oc
  | .drop n' k => if n = n' ∧ m = k then (match os with | none => oc | some _ => none) else oc
  | _ => oc
theorem set_pair {l : List ((Int × Int) × Cells)} {a b n m : Int} {v : Option Cells} : lookI (setI l (a, b) v) (n, m) = if n = a ∧ m = b then v else lookI l (n, m) := by
  rw [lk_set]
  by_cases z : n = a ∧ m = b
  · obtain ⟨rfl, rfl⟩ := z; rw [if_pos rfl, if_pos ⟨rfl, rfl⟩]
  · rw [if_neg z, if_neg (fun e => z (by cases e; exact ⟨rfl, rfl⟩))]
theorem look_sn {st : Sta} {r : Rc} {n m : Int} : lookI (afterR st r).sn (n, m) = newSn n m r (lookI st.sp n) (lookI st.sn (n, m)) := by
  obtain ⟨o, h, s, c, b⟩ := r
  cases b with
  | mark d =>
    show lookI (afterE (.told h d) (st0 st ⟨o, h, s, c, .mark d⟩)).sn (n, m) = lookI st.sn (n, m)
    unfold afterE
    dsimp only
    split <;> rfl
  | make a z => rfl
  | remove a =>
    show lookI (match lookI st.sp a with | none => st0 st ⟨o, h, s, c, .remove a⟩ | some s => goneS a (st0 st ⟨o, h, _, c, .remove a⟩) : Sta).sn (n, m) = if n = a then (match lookI st.sp n with | none => lookI st.sn (n, m) | some _ => none) else lookI st.sn (n, m)
    cases e : lookI st.sp a with
    | none =>
      show lookI st.sn (n, m) = _
      by_cases z : n = a
      · subst z; rw [if_pos rfl, e]
      · rw [if_neg z]
    | some sp =>
      show lookI (st.sn.filter fun p => !decide (p.1.1 = a)) (n, m) = _
      rw [lk_filter (p := fun q : Int × Int => !decide (q.1 = a))]
      by_cases z : n = a
      · subst z; rw [if_pos rfl, e, if_neg (by simp)]
      · rw [if_neg z, if_pos (by simp [z])]
  | snap a =>
    show lookI (match lookI st.sp a with | none => st0 st ⟨o, h, s, c, .snap a⟩ | some x => { st0 st ⟨o, h, s, c, .snap a⟩ with sn := setI st.sn (a, o) (some x.cs) } : Sta).sn (n, m) = if n = a ∧ m = o then (match lookI st.sp n with | none => lookI st.sn (n, m) | some s => some s.cs) else lookI st.sn (n, m)
    cases e : lookI st.sp a with
    | none =>
      show lookI st.sn (n, m) = _
      by_cases z : n = a ∧ m = o
      · rw [if_pos z, z.1, e]
      · rw [if_neg z]
    | some sp =>
      show lookI (setI st.sn (a, o) (some sp.cs)) (n, m) = _
      rw [set_pair]
      by_cases z : n = a ∧ m = o
      · rw [if_pos z, if_pos z, z.1, e]
      · rw [if_neg z, if_neg z]
  | drop a k =>
    show lookI (match lookI st.sp a with | none => st0 st ⟨o, h, s, c, .drop a k⟩ | some x => { st0 st ⟨o, h, s, c, .drop a k⟩ with sn := setI st.sn (a, k) none } : Sta).sn (n, m) = if n = a ∧ m = k then (match lookI st.sp n with | none => lookI st.sn (n, m) | some _ => none) else lookI st.sn (n, m)
    cases e : lookI st.sp a with
    | none =>
      show lookI st.sn (n, m) = _
      by_cases z : n = a ∧ m = k
      · rw [if_pos z, z.1, e]
      · rw [if_neg z]
    | some sp =>
      show lookI (setI st.sn (a, k) none) (n, m) = _
      rw [set_pair]
      by_cases z : n = a ∧ m = k
      · rw [if_pos z, if_pos z, z.1, e]
      · rw [if_neg z, if_neg z]
  | write a p v => exact no_sn (e := .place a p (some v)) (m := a) (st := st0 st ⟨o, h, s, c, .write a p v⟩) (fun _ => rfl) (fun _ _ => rfl)
  | trim a p => exact no_sn (e := .place a p none) (m := a) (st := st0 st ⟨o, h, s, c, .trim a p⟩) (fun _ => rfl) (fun _ _ => rfl)
  | register a => exact no_sn (e := .key a h (some o)) (m := a) (st := st0 st ⟨o, h, s, c, .register a⟩) (fun _ => rfl) (fun _ _ => rfl)
  | leave a held =>
    cases held with
    | false => exact no_sn (e := .key a h none) (m := a) (st := st0 st ⟨o, h, s, c, .leave a false⟩) (fun _ => rfl) (fun _ _ => rfl)
    | true => exact (no_sn (e := .hold a none) (m := a) (st := afterE (.key a h none) (st0 st ⟨o, h, s, c, .leave a true⟩)) (fun _ => rfl) (fun _ _ => rfl)).trans (no_sn (e := .key a h none) (m := a) (st := st0 st ⟨o, h, s, c, .leave a true⟩) (fun _ => rfl) (fun _ _ => rfl))
  | reserve a w => exact no_sn (e := .hold a (some (h, w))) (m := a) (st := st0 st ⟨o, h, s, c, .reserve a w⟩) (fun _ => rfl) (fun _ _ => rfl)
  | release a => exact no_sn (e := .hold a none) (m := a) (st := st0 st ⟨o, h, s, c, .release a⟩) (fun _ => rfl) (fun _ _ => rfl)
  | preempt a v w =>
    cases w with
    | none => exact no_sn (e := .key a v none) (m := a) (st := st0 st ⟨o, h, s, c, .preempt a v none⟩) (fun _ => rfl) (fun _ _ => rfl)
    | some w => exact (no_sn (e := .hold a (some (h, w))) (m := a) (st := afterE (.key a v none) (st0 st ⟨o, h, s, c, .preempt a v (some w)⟩)) (fun _ => rfl) (fun _ _ => rfl)).trans (no_sn (e := .key a v none) (m := a) (st := st0 st ⟨o, h, s, c, .preempt a v (some w)⟩) (fun _ => rfl) (fun _ _ => rfl))
end Sg

set_option Elab.async false
set_option linter.all false
set_option maxRecDepth 100000
set_option maxHeartbeats 4000000
namespace Sg
open PySem PySem.Spec PyProof.Rows L2
/-! ### a state tells what the rows of a namespace show -/
def zV : Option Spc → PyData
  | none => .none
  | some s => .int s.z
def cV (os : Option Spc) (p : Int) : PyData := match os with
  | none => .none
  | some s => oD (lookI s.cs p)
def kyV (os : Option Spc) (h : Int) : PyData := match os with
  | none => .none
  | some s => oD (lookI s.rg h)
def hoV : Option Spc → PyData
  | none => .none
  | some s => holdD s.hd
structure RepN (n : Int) (st : Sta) (rs : List Rc) : Prop where
  z : nowV rs (spT n) = zV (lookI st.sp n)
  c : ∀ p, nowV rs (plT n p) = cV (lookI st.sp n) p
  k : ∀ h, nowV rs (keT n h) = kyV (lookI st.sp n) h
  h : nowV rs (hoT n) = hoV (lookI st.sp n)
  s : ∀ m, noneQ (nowV rs (snapK n m)) = (lookI st.sn (n, m)).isNone
  v : ∀ m cs, lookI st.sn (n, m) = some cs → (∃ r ∈ rs, m ≤ r.o) ∧ ∀ p, progV rs (plT n p) m = oD (lookI cs p)
  nd : ∀ s, lookI st.sp n = some s → (s.rg.map (·.1)).Nodup
  ns : lookI st.sp n = none → ∀ m, lookI st.sn (n, m) = none
/-- the namespace of a record's body -/
def nsM : Bd → Option Int
  | .mark _ => none | .make n _ => some n | .remove n => some n | .write n _ _ => some n | .trim n _ => some n | .snap n => some n | .drop n _ => some n | .register n => some n
  | .leave n _ => some n | .reserve n _ => some n | .release n => some n | .preempt n _ _ => some n
def isMk : Bd → Bool
  | .make _ _ => true
  | _ => false
def isRm : Bd → Bool
  | .remove _ => true
  | _ => false
def OkR (n : Int) (os : Option Spc) (r : Rc) : Prop := nsM r.b = some n → isRm r.b = false → (if isMk r.b = true then os = none else ∃ s, os = some s)
theorem now_keep {rs : List Rc} {r : Rc} (h : AscR (rs ++ [r])) {k : List Key} (nr : isRem r.b (spaceK k) = false) (ns : saysR r k = none) : nowV (rs ++ [r]) k = nowV rs k := by
  rw [nowV_snoc h, ns]
  show (if strIn (word k) ["host", "told"] = false ∧ isRem r.b (spaceK k) = true then .none else nowV rs k) = _
  rw [if_neg (fun z => by rw [nr] at z; cases z.2)]
theorem now_set {rs : List Rc} {r : Rc} (h : AscR (rs ++ [r])) {k : List Key} {v : PyData} (ns : saysR r k = some v) : nowV (rs ++ [r]) k = v := by
  rw [nowV_snoc h, ns]
theorem now_gone {rs : List Rc} {r : Rc} (h : AscR (rs ++ [r])) {k : List Key} (hw : strIn (word k) ["host", "told"] = false) (nr : isRem r.b (spaceK k) = true) (ns : saysR r k = none) : nowV (rs ++ [r]) k = .none := by
  rw [nowV_snoc h, ns]
  show (if strIn (word k) ["host", "told"] = false ∧ isRem r.b (spaceK k) = true then .none else nowV rs k) = _
  rw [if_pos ⟨hw, nr⟩]
theorem wd_sp {n : Int} : strIn (word (spT n)) ["host", "told"] = false := (show strIn "space" ["host", "told"] = false by decide +kernel)
theorem wd_pl {n p : Int} : strIn (word (plT n p)) ["host", "told"] = false := (show strIn "place" ["host", "told"] = false by decide +kernel)
theorem wd_ke {n p : Int} : strIn (word (keT n p)) ["host", "told"] = false := (show strIn "key" ["host", "told"] = false by decide +kernel)
theorem wd_ho {n : Int} : strIn (word (hoT n)) ["host", "told"] = false := (show strIn "hold" ["host", "told"] = false by decide +kernel)
theorem wd_sn {n m : Int} : strIn (word (snapK n m)) ["host", "told"] = false := (show strIn "snap" ["host", "told"] = false by decide +kernel)
section
variable {n : Int} {st : Sta} {rs : List Rc} {r : Rc}
/-- what another namespace's record leaves -/
theorem RepN.other (R : RepN n st rs) (asc : AscR (rs ++ [r])) (hn : ¬ nsM r.b = some n) : RepN n (afterR st r) (rs ++ [r]) := by
  have nr : ∀ k, spaceK k = n → isRem r.b (spaceK k) = false := fun k hk => by
    rw [hk]
    cases hb : isRem r.b n with
    | false => rfl
    | true => exact absurd (by rw [isRem_iff.mp hb]; rfl) hn
  have esp : lookI (afterR st r).sp n = lookI st.sp n := by
    rw [look_sp]
    obtain ⟨o, h, s, c, b⟩ := r
    cases b with
    | mark d => rfl
    | leave m hb => cases hb <;> exact if_neg fun z => hn (by rw [z]; rfl)
    | preempt m v w => cases w <;> exact if_neg fun z => hn (by rw [z]; rfl)
    | snap m => rfl
    | drop m k => rfl
    | _ => exact if_neg fun z => hn (by rw [z]; rfl)
  have esn : ∀ m, lookI (afterR st r).sn (n, m) = lookI st.sn (n, m) := fun m => by
    rw [look_sn]
    obtain ⟨o, h, s, c, b⟩ := r
    cases b with
    | remove a => exact if_neg fun z => hn (by rw [z]; rfl)
    | snap a => exact if_neg fun z => hn (by rw [z.1]; rfl)
    | drop a k => exact if_neg fun z => hn (by rw [z.1]; rfl)
    | _ => rfl
  have s1 : saysR r (spT n) = none := by
    rw [says_sp]
    obtain ⟨o, h, s, c, b⟩ := r
    cases b with
    | make m z => exact if_neg fun z => hn (by rw [← z]; rfl)
    | _ => rfl
  have s2 : ∀ p, saysR r (plT n p) = none := fun p => by
    rw [says_pl]
    obtain ⟨o, h, s, c, b⟩ := r
    cases b with
    | write m q v => exact if_neg fun z => hn (by rw [← z.1]; rfl)
    | trim m q => exact if_neg fun z => hn (by rw [← z.1]; rfl)
    | _ => rfl
  have s3 : ∀ x, saysR r (keT n x) = none := fun x => by
    rw [says_ke]
    obtain ⟨o, h, s, c, b⟩ := r
    cases b with
    | register m => exact if_neg fun z => hn (by rw [← z.1]; rfl)
    | leave m hb => exact if_neg fun z => hn (by rw [← z.1]; rfl)
    | preempt m v w => exact if_neg fun z => hn (by rw [← z.1]; rfl)
    | _ => rfl
  have s4 : saysR r (hoT n) = none := by
    rw [says_ho]
    obtain ⟨o, h, s, c, b⟩ := r
    cases b with
    | leave m hb => cases hb with
      | false => rfl
      | true => exact if_neg fun z => hn (by rw [← z]; rfl)
    | reserve m w => exact if_neg fun z => hn (by rw [← z]; rfl)
    | release m => exact if_neg fun z => hn (by rw [← z]; rfl)
    | preempt m v w => cases w with
      | none => rfl
      | some w => exact if_neg fun z => hn (by rw [← z]; rfl)
    | _ => rfl
  have s5 : ∀ m, saysR r (snapK n m) = none := fun m => by
    rw [says_sn]
    obtain ⟨o, h, s, c, b⟩ := r
    cases b with
    | snap a => exact if_neg fun z => hn (by rw [← z.1]; rfl)
    | drop a k => exact if_neg fun z => hn (by rw [← z.1]; rfl)
    | _ => rfl
  refine ⟨?_, fun p => ?_, fun x => ?_, ?_, fun m => ?_, fun m cs e => ?_, fun s e => ?_, fun e m => ?_⟩
  · rw [now_keep asc (nr _ rfl) s1, esp]; exact R.z
  · rw [now_keep asc (nr _ rfl) (s2 p), esp]; exact R.c p
  · rw [now_keep asc (nr _ rfl) (s3 x), esp]; exact R.k x
  · rw [now_keep asc (nr _ rfl) s4, esp]; exact R.h
  · rw [now_keep asc (nr _ rfl) (s5 m), esn]; exact R.s m
  · rw [esn] at e
    obtain ⟨⟨q, hq, hm⟩, hv⟩ := R.v m cs e
    have lt := (ascR_snoc asc).2 q hq
    exact ⟨⟨q, List.mem_append_left _ hq, hm⟩, fun p => by rw [then_snoc _ (by omega)]; exact hv p⟩
  · rw [esp] at e; exact R.nd s e
  · rw [esp] at e; rw [esn]; exact R.ns e m
/-- a namespace that goes -/
theorem RepN.gone (asc : AscR (rs ++ [r])) (hr : r.b = .remove n) (R : ∀ m, lookI st.sp n = none → lookI st.sn (n, m) = none) : RepN n (afterR st r) (rs ++ [r]) := by
  have nr : isRem r.b n = true := isRem_iff.mpr hr
  have esp : lookI (afterR st r).sp n = none := by
    rw [look_sp]
    unfold newSp
    rw [hr]
    exact if_pos rfl
  have esn : ∀ m, lookI (afterR st r).sn (n, m) = none := fun m => by
    rw [look_sn]
    unfold newSn
    rw [hr]
    show (if n = n then _ else _) = _
    rw [if_pos rfl]
    cases e : lookI st.sp n with
    | none => exact R m e
    | some s => rfl
  refine ⟨?_, fun p => ?_, fun x => ?_, ?_, fun m => ?_, fun m cs e => ?_, fun s e => ?_, fun _ m => esn m⟩
  · rw [now_gone asc wd_sp nr (by rw [says_sp, hr]), esp]; rfl
  · rw [now_gone asc wd_pl nr (by rw [says_pl, hr]), esp]; rfl
  · rw [now_gone asc wd_ke nr (by rw [says_ke, hr]), esp]; rfl
  · rw [now_gone asc wd_ho nr (by rw [says_ho, hr]), esp]; rfl
  · rw [now_gone asc wd_sn nr (by rw [says_sn, hr]), esn]; rfl
  · rw [esn] at e; cases e
  · rw [esp] at e; cases e
end
end Sg

set_option Elab.async false
set_option linter.all false
set_option maxRecDepth 100000
set_option maxHeartbeats 4000000
namespace Sg
open PySem PySem.Spec PyProof.Rows L2
/-! ### a record of the namespace itself -/
section
variable {n : Int} {st : Sta} {rs : List Rc} {r : Rc} {s0 s1 : Spc}
theorem RepN.chg (R : RepN n st rs) (asc : AscR (rs ++ [r])) (nr : ∀ m, isRem r.b m = false) (h0 : lookI st.sp n = some s0) (h1 : newSp n r (some s0) = some s1) (z : saysR r (spT n) = none) (ez : s1.z = s0.z)
    (c : ∀ p, saysR r (plT n p) = some (oD (lookI s1.cs p)) ∨ (saysR r (plT n p) = none ∧ lookI s1.cs p = lookI s0.cs p))
    (k : ∀ x, saysR r (keT n x) = some (oD (lookI s1.rg x)) ∨ (saysR r (keT n x) = none ∧ lookI s1.rg x = lookI s0.rg x))
    (h : saysR r (hoT n) = some (holdD s1.hd) ∨ (saysR r (hoT n) = none ∧ s1.hd = s0.hd))
    (sn : ∀ m, (∃ v, saysR r (snapK n m) = some v ∧ noneQ v = (newSn n m r (some s0) (lookI st.sn (n, m))).isNone) ∨ (saysR r (snapK n m) = none ∧ newSn n m r (some s0) (lookI st.sn (n, m)) = lookI st.sn (n, m)))
    (v : ∀ m cs, newSn n m r (some s0) (lookI st.sn (n, m)) = some cs → lookI st.sn (n, m) = some cs ∨ (m = r.o ∧ cs = s0.cs))
    (nd : (s1.rg.map (·.1)).Nodup) : RepN n (afterR st r) (rs ++ [r]) := by
  have esp : lookI (afterR st r).sp n = some s1 := by rw [look_sp, h0]; exact h1
  have esn : ∀ m, lookI (afterR st r).sn (n, m) = newSn n m r (some s0) (lookI st.sn (n, m)) := fun m => by rw [look_sn, h0]
  refine ⟨?_, fun p => ?_, fun x => ?_, ?_, fun m => ?_, fun m cs e => ?_, fun s e => ?_, fun e => ?_⟩
  · rw [now_keep asc (nr _) z, R.z, h0, esp]
    show PyData.int s0.z = PyData.int s1.z
    rw [ez]
  · rw [esp]
    rcases c p with e | ⟨e, e2⟩
    · rw [now_set asc e]; rfl
    · rw [now_keep asc (nr _) e, R.c, h0]
      show oD (lookI s0.cs p) = oD (lookI s1.cs p)
      rw [e2]
  · rw [esp]
    rcases k x with e | ⟨e, e2⟩
    · rw [now_set asc e]; rfl
    · rw [now_keep asc (nr _) e, R.k, h0]
      show oD (lookI s0.rg x) = oD (lookI s1.rg x)
      rw [e2]
  · rw [esp]
    rcases h with e | ⟨e, e2⟩
    · rw [now_set asc e]; rfl
    · rw [now_keep asc (nr _) e, R.h, h0]
      show holdD s0.hd = holdD s1.hd
      rw [e2]
  · rw [esn]
    rcases sn m with ⟨v, e, e2⟩ | ⟨e, e2⟩
    · rw [now_set asc e]; exact e2
    · rw [now_keep asc (nr _) e, e2]; exact R.s m
  · rw [esn] at e
    rcases v m cs e with e | ⟨rfl, rfl⟩
    · obtain ⟨⟨q, hq, hm⟩, hv⟩ := R.v m cs e
      have lt := (ascR_snoc asc).2 q hq
      exact ⟨⟨q, List.mem_append_left _ hq, hm⟩, fun p => by rw [then_snoc _ (by omega)]; exact hv p⟩
    · refine ⟨⟨r, List.mem_append_right _ (List.mem_singleton.mpr rfl), Int.le_refl _⟩, fun p => ?_⟩
      rw [then_snoc _ (Int.le_refl _), then_now (ascR_snoc asc).1 _ (ascR_snoc asc).2, R.c, h0]; rfl
  · rw [esp] at e; cases e; exact nd
  · rw [esp] at e; cases e
theorem out_nd {rg : List (Int × Int)} {h : Int} (nd : (rg.map (·.1)).Nodup) : ((outR rg h).map (·.1)).Nodup := nd.sublist (List.Sublist.map _ List.filter_sublist)
theorem RepN.own (R : RepN n st rs) (asc : AscR (rs ++ [r])) (hn : nsM r.b = some n) (nrm : isRm r.b = false) (ok : OkR n (lookI st.sp n) r) : RepN n (afterR st r) (rs ++ [r]) := by
  have ok := ok hn nrm
  have nr : ∀ m, isRem r.b m = false := fun m => by
    cases e : isRem r.b m with
    | false => rfl
    | true => rw [isRem_iff.mp e] at nrm; cases nrm
  obtain ⟨o, h, s, c, b⟩ := r
  cases b with
  | mark d => cases hn
  | remove m => cases nrm
  | make m z =>
    obtain rfl : m = n := Option.some.inj hn
    have h0 : lookI st.sp m = none := ok
    have esp : lookI (afterR st ⟨o, h, s, c, .make m z⟩).sp m = some ⟨z, [], [], none⟩ := by
      rw [look_sp]; exact if_pos rfl
    have esn : ∀ k, lookI (afterR st ⟨o, h, s, c, .make m z⟩).sn (m, k) = lookI st.sn (m, k) := fun k => by rw [look_sn]; rfl
    refine ⟨?_, fun p => ?_, fun x => ?_, ?_, fun k => ?_, fun k cs e => ?_, fun s' e => ?_, fun e => ?_⟩
    · rw [now_set asc (v := .int z) (by rw [says_sp]; exact if_pos rfl), esp]; rfl
    · rw [now_keep asc (nr _) (by rw [says_pl]), R.c, h0, esp]; rfl
    · rw [now_keep asc (nr _) (by rw [says_ke]), R.k, h0, esp]; rfl
    · rw [now_keep asc (nr _) (by rw [says_ho]), R.h, h0, esp]; rfl
    · rw [now_keep asc (nr _) (by rw [says_sn]), esn]; exact R.s k
    · rw [esn, R.ns h0] at e; cases e
    · rw [esp] at e; cases e; exact List.nodup_nil
    · rw [esp] at e; cases e
  | write m q v =>
    obtain rfl : m = n := Option.some.inj hn
    obtain ⟨s0, h0⟩ : ∃ s, lookI st.sp m = some s := ok
    refine R.chg asc nr h0 (s1 := { s0 with cs := setI s0.cs q (some v) }) (if_pos rfl) (by rw [says_sp]) rfl (fun p => ?_) (fun x => .inr ⟨by rw [says_ke], rfl⟩) (.inr ⟨by rw [says_ho], rfl⟩) (fun k => .inr ⟨by rw [says_sn], rfl⟩) (fun k cs e => .inl e) (R.nd s0 h0)
    by_cases e : q = p
    · subst e
      exact .inl (by rw [says_pl]; show (if m = m ∧ q = q then some (PyData.int v) else none) = some (oD (lookI (setI s0.cs q (some v)) q)); rw [if_pos ⟨rfl, rfl⟩, lk_set, if_pos rfl]; rfl)
    · exact .inr ⟨by rw [says_pl]; exact if_neg fun z => e z.2, by show lookI (setI s0.cs q (some v)) p = _; rw [lk_set, if_neg fun z => e z.symm]⟩
  | trim m q =>
    obtain rfl : m = n := Option.some.inj hn
    obtain ⟨s0, h0⟩ : ∃ s, lookI st.sp m = some s := ok
    refine R.chg asc nr h0 (s1 := { s0 with cs := setI s0.cs q none }) (if_pos rfl) (by rw [says_sp]) rfl (fun p => ?_) (fun x => .inr ⟨by rw [says_ke], rfl⟩) (.inr ⟨by rw [says_ho], rfl⟩) (fun k => .inr ⟨by rw [says_sn], rfl⟩) (fun k cs e => .inl e) (R.nd s0 h0)
    by_cases e : q = p
    · subst e
      exact .inl (by rw [says_pl]; show (if m = m ∧ q = q then some PyData.none else none) = some (oD (lookI (setI s0.cs q none) q)); rw [if_pos ⟨rfl, rfl⟩, lk_set, if_pos rfl]; rfl)
    · exact .inr ⟨by rw [says_pl]; exact if_neg fun z => e z.2, by show lookI (setI s0.cs q none) p = _; rw [lk_set, if_neg fun z => e z.symm]⟩
  | snap m =>
    obtain rfl : m = n := Option.some.inj hn
    obtain ⟨s0, h0⟩ : ∃ s, lookI st.sp m = some s := ok
    refine R.chg asc nr h0 (s1 := s0) rfl (by rw [says_sp]) rfl (fun p => .inr ⟨by rw [says_pl], rfl⟩) (fun x => .inr ⟨by rw [says_ke], rfl⟩) (.inr ⟨by rw [says_ho], rfl⟩) (fun k => ?_) (fun k cs e => ?_) (R.nd s0 h0)
    · by_cases e : o = k
      · subst e
        exact .inl ⟨.int o, by rw [says_sn]; exact if_pos ⟨rfl, rfl⟩, by unfold newSn; show false = (if m = m ∧ o = o then some s0.cs else _).isNone; rw [if_pos ⟨rfl, rfl⟩]; rfl⟩
      · exact .inr ⟨by rw [says_sn]; exact if_neg fun z => e z.2, if_neg fun z => e z.2.symm⟩
    · have e' : (if m = m ∧ k = o then some s0.cs else lookI st.sn (m, k)) = some cs := e
      by_cases z : k = o
      · rw [if_pos ⟨rfl, z⟩] at e'; exact .inr ⟨z, (Option.some.inj e').symm⟩
      · rw [if_neg fun y => z y.2] at e'; exact .inl e'
  | drop m j =>
    obtain rfl : m = n := Option.some.inj hn
    obtain ⟨s0, h0⟩ : ∃ s, lookI st.sp m = some s := ok
    refine R.chg asc nr h0 (s1 := s0) rfl (by rw [says_sp]) rfl (fun p => .inr ⟨by rw [says_pl], rfl⟩) (fun x => .inr ⟨by rw [says_ke], rfl⟩) (.inr ⟨by rw [says_ho], rfl⟩) (fun k => ?_) (fun k cs e => ?_) (R.nd s0 h0)
    · by_cases e : j = k
      · subst e
        exact .inl ⟨.none, by rw [says_sn]; exact if_pos ⟨rfl, rfl⟩, by unfold newSn; show true = (if m = m ∧ j = j then none else _).isNone; rw [if_pos ⟨rfl, rfl⟩]; rfl⟩
      · exact .inr ⟨by rw [says_sn]; exact if_neg fun z => e z.2, if_neg fun z => e z.2.symm⟩
    · have e' : (if m = m ∧ k = j then none else lookI st.sn (m, k)) = some cs := e
      by_cases z : k = j
      · rw [if_pos ⟨rfl, z⟩] at e'; cases e'
      · rw [if_neg fun y => z y.2] at e'; exact .inl e'
  | register m =>
    obtain rfl : m = n := Option.some.inj hn
    obtain ⟨s0, h0⟩ : ∃ s, lookI st.sp m = some s := ok
    refine R.chg asc nr h0 (s1 := { s0 with rg := insR s0.rg h o }) (if_pos rfl) (by rw [says_sp]) rfl (fun p => .inr ⟨by rw [says_pl], rfl⟩) (fun x => ?_) (.inr ⟨by rw [says_ho], rfl⟩) (fun k => .inr ⟨by rw [says_sn], rfl⟩) (fun k cs e => .inl e) (ins_nodup (R.nd s0 h0))
    by_cases e : h = x
    · subst e
      exact .inl (by rw [says_ke]; show (if m = m ∧ h = h then some (PyData.int o) else none) = some (oD (lookI (insR s0.rg h o) h)); rw [if_pos ⟨rfl, rfl⟩, lk_ins (R.nd s0 h0), if_pos rfl]; rfl)
    · exact .inr ⟨by rw [says_ke]; exact if_neg fun z => e z.2, by show lookI (insR s0.rg h o) x = _; rw [lk_ins (R.nd s0 h0), if_neg fun z => e z.symm]⟩
  | leave m held =>
    obtain rfl : m = n := Option.some.inj hn
    obtain ⟨s0, h0⟩ : ∃ s, lookI st.sp m = some s := ok
    have ke : ∀ hb x, saysR ⟨o, h, s, c, .leave m hb⟩ (keT m x) = some (oD (lookI (outR s0.rg h) x)) ∨ (saysR ⟨o, h, s, c, .leave m hb⟩ (keT m x) = none ∧ lookI (outR s0.rg h) x = lookI s0.rg x) := fun hb x => by
      by_cases e : h = x
      · subst e
        exact .inl (by rw [says_ke]; show (if m = m ∧ h = h then some PyData.none else none) = some (oD (lookI (outR s0.rg h) h)); rw [if_pos ⟨rfl, rfl⟩, lk_out, if_pos rfl]; rfl)
      · exact .inr ⟨by rw [says_ke]; exact if_neg fun z => e z.2, by rw [lk_out, if_neg fun z => e z.symm]⟩
    cases held with
    | false => exact R.chg asc nr h0 (s1 := { s0 with rg := outR s0.rg h }) (if_pos rfl) (by rw [says_sp]) rfl (fun p => .inr ⟨by rw [says_pl], rfl⟩) (ke false) (.inr ⟨by rw [says_ho], rfl⟩) (fun k => .inr ⟨by rw [says_sn], rfl⟩) (fun k cs e => .inl e) (out_nd (R.nd s0 h0))
    | true => exact R.chg asc nr h0 (s1 := { s0 with rg := outR s0.rg h, hd := none }) (if_pos rfl) (by rw [says_sp]) rfl (fun p => .inr ⟨by rw [says_pl], rfl⟩) (ke true) (.inl (by rw [says_ho]; exact if_pos rfl)) (fun k => .inr ⟨by rw [says_sn], rfl⟩) (fun k cs e => .inl e) (out_nd (R.nd s0 h0))
  | reserve m w =>
    obtain rfl : m = n := Option.some.inj hn
    obtain ⟨s0, h0⟩ : ∃ s, lookI st.sp m = some s := ok
    exact R.chg asc nr h0 (s1 := { s0 with hd := some (h, w) }) (if_pos rfl) (by rw [says_sp]) rfl (fun p => .inr ⟨by rw [says_pl], rfl⟩) (fun x => .inr ⟨by rw [says_ke], rfl⟩) (.inl (by rw [says_ho]; exact if_pos rfl)) (fun k => .inr ⟨by rw [says_sn], rfl⟩) (fun k cs e => .inl e) (R.nd s0 h0)
  | release m =>
    obtain rfl : m = n := Option.some.inj hn
    obtain ⟨s0, h0⟩ : ∃ s, lookI st.sp m = some s := ok
    exact R.chg asc nr h0 (s1 := { s0 with hd := none }) (if_pos rfl) (by rw [says_sp]) rfl (fun p => .inr ⟨by rw [says_pl], rfl⟩) (fun x => .inr ⟨by rw [says_ke], rfl⟩) (.inl (by rw [says_ho]; exact if_pos rfl)) (fun k => .inr ⟨by rw [says_sn], rfl⟩) (fun k cs e => .inl e) (R.nd s0 h0)
  | preempt m v w =>
    obtain rfl : m = n := Option.some.inj hn
    obtain ⟨s0, h0⟩ : ∃ s, lookI st.sp m = some s := ok
    have ke : ∀ w x, saysR ⟨o, h, s, c, .preempt m v w⟩ (keT m x) = some (oD (lookI (outR s0.rg v) x)) ∨ (saysR ⟨o, h, s, c, .preempt m v w⟩ (keT m x) = none ∧ lookI (outR s0.rg v) x = lookI s0.rg x) := fun w x => by
      by_cases e : v = x
      · subst e
        exact .inl (by rw [says_ke]; show (if m = m ∧ v = v then some PyData.none else none) = some (oD (lookI (outR s0.rg v) v)); rw [if_pos ⟨rfl, rfl⟩, lk_out, if_pos rfl]; rfl)
      · exact .inr ⟨by rw [says_ke]; exact if_neg fun z => e z.2, by rw [lk_out, if_neg fun z => e z.symm]⟩
    cases w with
    | none => exact R.chg asc nr h0 (s1 := { s0 with rg := outR s0.rg v }) (if_pos rfl) (by rw [says_sp]) rfl (fun p => .inr ⟨by rw [says_pl], rfl⟩) (ke none) (.inr ⟨by rw [says_ho], rfl⟩) (fun k => .inr ⟨by rw [says_sn], rfl⟩) (fun k cs e => .inl e) (out_nd (R.nd s0 h0))
    | some w => exact R.chg asc nr h0 (s1 := { s0 with rg := outR s0.rg v, hd := some (h, w) }) (if_pos rfl) (by rw [says_sp]) rfl (fun p => .inr ⟨by rw [says_pl], rfl⟩) (ke (some w)) (.inl (by rw [says_ho]; exact if_pos rfl)) (fun k => .inr ⟨by rw [says_sn], rfl⟩) (fun k cs e => .inl e) (out_nd (R.nd s0 h0))
end
end Sg

set_option Elab.async false
set_option linter.all false
set_option maxRecDepth 100000
set_option maxHeartbeats 4000000
namespace Sg
open PySem PySem.Spec PyProof.Rows L2
/-! ### the whole list -/
/-- snapshots are of spaces that are there -/
def SnIn (st : Sta) : Prop := ∀ n m, lookI st.sp n = none → lookI st.sn (n, m) = none
theorem new_none {n : Int} {r : Rc} {os : Option Spc} (h : newSp n r os = none) : os = none ∨ r.b = .remove n := by
  obtain ⟨o, x, s, c, b⟩ := r
  cases os with
  | none => exact .inl rfl
  | some s0 =>
    refine .inr ?_
    cases b with
    | remove m =>
      by_cases e : n = m
      · rw [e]
      · have h' : (if n = m then none else some s0) = none := h
        rw [if_neg e] at h'; cases h'
    | make m z =>
      have h' : (if n = m then some (⟨z, [], [], none⟩ : Spc) else some s0) = none := h
      split at h' <;> cases h'
    | mark d => cases h
    | snap m => cases h
    | drop m k => cases h
    | leave m hb => cases hb <;> (unfold newSp at h; dsimp only at h; split at h <;> cases h)
    | preempt m v w => cases w <;> (unfold newSp at h; dsimp only at h; split at h <;> cases h)
    | _ => unfold newSp at h; dsimp only at h; split at h <;> cases h
theorem SnIn.step {st : Sta} (S : SnIn st) (r : Rc) : SnIn (afterR st r) := fun n m e => by
  rw [look_sp] at e
  rw [look_sn]
  rcases new_none e with h0 | hr
  · rw [h0]
    have := S n m h0
    rw [this]
    unfold newSn
    split <;> (try split) <;> rfl
  · unfold newSn
    rw [hr]
    show (if n = n then _ else _) = _
    rw [if_pos rfl]
    cases e0 : lookI st.sp n with
    | none => exact S n m e0
    | some s => rfl
theorem SnIn.fold {st : Sta} (S : SnIn st) : ∀ rs : List Rc, SnIn (rs.foldl afterR st)
  | [] => S
  | r :: rs => SnIn.fold (S.step r) rs
theorem empty_in : SnIn emptyS := fun n m _ => rfl
/-- the part of a list behind the last end of a namespace: a make, then no other -/
def SegB (n : Int) : Bool → List Rc → Prop
  | _, [] => True
  | b, r :: rs => (nsM r.b = some n ∧ isRm r.b = false ∧ isMk r.b = !b ∧ SegB n true rs) ∨ (¬ nsM r.b = some n ∧ SegB n b rs)
theorem new_some {n : Int} {r : Rc} {os : Option Spc} (hn : nsM r.b = some n) (nrm : isRm r.b = false) (ok : if isMk r.b = true then os = none else ∃ s, os = some s) : (newSp n r os).isSome = true := by
  cases e : newSp n r os with
  | some s => rfl
  | none =>
    exfalso
    obtain ⟨o, x, s, c, b⟩ := r
    cases b with
    | make m z =>
      obtain rfl : m = n := Option.some.inj hn
      have h' : (if m = m then some (⟨z, [], [], none⟩ : Spc) else os) = none := e
      rw [if_pos rfl] at h'; cases h'
    | remove m => cases nrm
    | _ =>
      rcases new_none e with h0 | hr
      · first
          | (obtain ⟨s, hs⟩ := (show ∃ s, os = some s from ok); rw [h0] at hs; cases hs)
          | cases hn
          | cases nrm
      · first | cases hr | cases nrm | (rw [show _ = _ from hr] at nrm; cases nrm)
theorem seg_rep {n : Int} : ∀ (Y X : List Rc) (st : Sta), AscR (X ++ Y) → RepN n st X → SegB n (lookI st.sp n).isSome Y → RepN n (Y.foldl afterR st) (X ++ Y)
  | [], X, st, _, R, _ => by rw [List.append_nil]; exact R
  | r :: Y, X, st, asc, R, S => by
    have e : X ++ r :: Y = (X ++ [r]) ++ Y := by simp
    rw [e] at asc ⊢
    have asc1 : AscR (X ++ [r]) := asc.sublist (List.sublist_append_left _ _)
    rcases S with ⟨hn, nrm, mk, S⟩ | ⟨hn, S⟩
    · have ok : if isMk r.b = true then lookI st.sp n = none else ∃ s, lookI st.sp n = some s := by
        cases h0 : lookI st.sp n with
        | none =>
          rw [h0] at mk
          have mk' : isMk r.b = true := mk
          rw [mk', if_pos rfl]
        | some s =>
          rw [h0] at mk
          have mk' : isMk r.b = false := mk
          rw [mk', if_neg Bool.false_ne_true]
          exact ⟨s, rfl⟩
      refine seg_rep Y (X ++ [r]) (afterR st r) asc (R.own asc1 hn nrm fun _ _ => ok) ?_
      rw [look_sp, new_some hn nrm ok]; exact S
    · refine seg_rep Y (X ++ [r]) (afterR st r) asc (R.other asc1 hn) ?_
      have : lookI (afterR st r).sp n = lookI st.sp n := by
        rw [look_sp]
        obtain ⟨o, h, s, c, b⟩ := r
        cases b with
        | mark d => rfl
        | leave m hb => cases hb <;> exact if_neg fun z => hn (by rw [z]; rfl)
        | preempt m v w => cases w <;> exact if_neg fun z => hn (by rw [z]; rfl)
        | snap m => rfl
        | drop m k => rfl
        | _ => exact if_neg fun z => hn (by rw [z]; rfl)
      rw [this]; exact S
def WfN (n : Int) (rs : List Rc) : Prop := ∃ X Y, rs = X ++ Y ∧ (X = [] ∨ ∃ X' r, X = X' ++ [r] ∧ r.b = .remove n) ∧ SegB n false Y
theorem rep_nil {n : Int} : RepN n emptyS [] := ⟨rfl, fun _ => rfl, fun _ => rfl, rfl, fun _ => rfl, (fun _ _ e => nomatch e), (fun _ e => nomatch e), fun _ _ => rfl⟩
theorem rep_of {n : Int} {rs : List Rc} (asc : AscR rs) (w : WfN n rs) : RepN n (foldR rs) rs := by
  obtain ⟨X, Y, rfl, hX, S⟩ := w
  unfold foldR
  rw [List.foldl_append]
  rcases hX with rfl | ⟨X', r, rfl, hr⟩
  · exact seg_rep Y [] emptyS asc rep_nil S
  · have asc1 : AscR (X' ++ [r]) := asc.sublist (List.sublist_append_left _ _)
    have R : RepN n ((X' ++ [r]).foldl afterR emptyS) (X' ++ [r]) := by
      rw [List.foldl_append]
      exact RepN.gone asc1 hr fun m e => (empty_in.fold X') n m e
    refine seg_rep Y (X' ++ [r]) _ asc R ?_
    have : lookI ((X' ++ [r]).foldl afterR emptyS).sp n = none := by
      rw [List.foldl_append]
      show lookI (afterR (X'.foldl afterR emptyS) r).sp n = none
      rw [look_sp]
      unfold newSp
      rw [hr]
      exact if_pos rfl
    rw [this]; exact S
end Sg

set_option Elab.async false
set_option linter.all false
set_option maxRecDepth 100000
set_option maxHeartbeats 4000000
namespace Sg
open PySem PySem.Spec PyProof.Rows L2
/-! ### what stays when dead records go -/
def lastN (rs : List Rc) (k : List Key) : Option Rw := lastShown rs k (presentO rs)
theorem lastN_eq {rs : List Rc} (asc : AscR rs) (k : List Key) : lastN rs k = match (rowsF rs k).getLast? with
    | none => none
    | some x => if strIn (word k) ["host", "told"] = true then some x else if ((rowsF rs (goneK (spaceK k))).any fun g => decide (x.1 < g.1)) = true then none else some x := by
  have e1 : ((rowsF rs k).filter fun x => decide (x.1 < presentO rs)) = rowsF rs k := List.filter_eq_self.mpr fun x hx => decide_eq_true (rows_lt asc hx)
  unfold lastN lastShown
  rw [e1]
  cases (rowsF rs k).getLast? with
  | none => rfl
  | some x =>
    unfold hidF
    have e2 : ((rowsF rs (goneK (spaceK k))).any fun g => decide (x.1 < g.1) && decide (g.1 < presentO rs)) = (rowsF rs (goneK (spaceK k))).any fun g => decide (x.1 < g.1) := by
      rw [Bool.eq_iff_iff, List.any_eq_true, List.any_eq_true]
      constructor
      · rintro ⟨g, hg, h⟩
        exact ⟨g, hg, (Bool.and_eq_true_iff.mp h).1⟩
      · rintro ⟨g, hg, h⟩
        exact ⟨g, hg, by rw [h, decide_eq_true (rows_lt asc hg)]; rfl⟩
    show (if (if strIn (word k) ["host", "told"] = true then false else (rowsF rs (goneK (spaceK k))).any fun g => decide (x.1 < g.1) && decide (g.1 < presentO rs)) = true then none else some x) = if strIn (word k) ["host", "told"] = true then some x else if ((rowsF rs (goneK (spaceK k))).any fun g => decide (x.1 < g.1)) = true then none else some x
    rw [e2]
    cases strIn (word k) ["host", "told"] with
    | true => rfl
    | false => rfl
theorem saysR_none {r : Rc} {k : List Key} (h : saysR r k = none) : rowsE r.o k (effR r) = [] := by
  unfold saysR at h
  cases e : rowsE r.o k (effR r) with
  | nil => rfl
  | cons x l =>
    rw [e] at h
    have : (x :: l).getLast? ≠ none := by simp
    cases h2 : (x :: l).getLast? with
    | none => exact absurd h2 this
    | some y => rw [h2] at h; cases h
theorem lastN_keep {rs : List Rc} {r : Rc} (h : AscR (rs ++ [r])) {k : List Key} (nr : isRem r.b (spaceK k) = false) (ns : saysR r k = none) : lastN (rs ++ [r]) k = lastN rs k := by
  rw [lastN_eq h, lastN_eq (ascR_snoc h).1, rowsF_snoc, saysR_none ns, List.append_nil, rowsF_snoc]
  rcases gone_rows (r := r) (n := spaceK k) with eg | ⟨er, _⟩
  · rw [eg, List.append_nil]
  · rw [isRem_iff.mpr er] at nr; cases nr
theorem lastN_set {rs : List Rc} {r : Rc} (h : AscR (rs ++ [r])) {k : List Key} {v : PyData} (ns : saysR r k = some v) : lastN (rs ++ [r]) k = some (r.o, v) := by
  rw [lastN_eq h, rowsF_snoc]
  unfold saysR at ns
  cases e : rowsE r.o k (effR r) with
  | nil => rw [e] at ns; cases ns
  | cons x l =>
    have hl : (rowsE r.o k (effR r)).length ≤ 1 := rowsER_le
    rw [e] at hl ns
    have : l = [] := by cases l with | nil => rfl | cons y z => simp at hl
    subst this
    have hx : x ∈ rowsE r.o k (effR r) := by rw [e]; simp
    have ho := rowsE_ord hx
    have hv : x.2 = v := Option.some.inj ns
    rw [List.getLast?_concat]
    have ng : ((rowsF (rs ++ [r]) (goneK (spaceK k))).any fun g => decide (x.1 < g.1)) = false := by
      rw [List.any_eq_false]
      intro g hg
      obtain ⟨q, hq, eq, _⟩ := rowsF_of hg
      have : q.o ≤ r.o := by
        rcases List.mem_append.mp hq with hq | hq
        · exact Int.le_of_lt ((ascR_snoc h).2 q hq)
        · rw [List.mem_singleton.mp hq]; exact Int.le_refl _
      simp; omega
    show (if strIn (word k) ["host", "told"] = true then some x else if ((rowsF (rs ++ [r]) (goneK (spaceK k))).any fun g => decide (x.1 < g.1)) = true then none else some x) = _
    rw [ng]
    have ex : some x = some (r.o, v) := by rw [← ho, ← hv]
    split
    · exact ex
    · exact ex
theorem lastN_mid {P : List Rc} {mk : Rc} {k : List Key} {v : PyData} (ns : saysR mk k = some v) (Q : List Rc) : AscR (P ++ mk :: Q) → (∀ r ∈ Q, isRem r.b (spaceK k) = false ∧ saysR r k = none) → lastN (P ++ mk :: Q) k = some (mk.o, v) := by
  refine snocInd (p := fun Q => AscR (P ++ mk :: Q) → (∀ r ∈ Q, isRem r.b (spaceK k) = false ∧ saysR r k = none) → lastN (P ++ mk :: Q) k = some (mk.o, v)) (fun asc _ => lastN_set asc ns) (fun Q r ih asc hq => ?_) Q
  have e : P ++ mk :: (Q ++ [r]) = (P ++ mk :: Q) ++ [r] := by simp
  rw [e] at asc ⊢
  obtain ⟨a, b⟩ := hq r (by simp)
  rw [lastN_keep asc a b]
  exact ih (ascR_snoc asc).1 fun q h => hq q (List.mem_append_left _ h)
section
variable {n : Int}
theorem segT : ∀ {Y : List Rc}, SegB n true Y ↔ ∀ r ∈ Y, nsM r.b = some n → isMk r.b = false ∧ isRm r.b = false
  | [] => ⟨(fun _ _ h => nomatch h), fun _ => trivial⟩
  | r :: Y => by
    constructor
    · rintro (⟨hn, nrm, mk, S⟩ | ⟨hn, S⟩) q hq hqn
      · rcases List.mem_cons.mp hq with rfl | hq
        · exact ⟨mk, nrm⟩
        · exact segT.mp S q hq hqn
      · rcases List.mem_cons.mp hq with rfl | hq
        · exact absurd hqn hn
        · exact segT.mp S q hq hqn
    · intro h
      have S : SegB n true Y := segT.mpr fun q hq => h q (List.mem_cons_of_mem _ hq)
      by_cases hn : nsM r.b = some n
      · obtain ⟨a, b⟩ := h r List.mem_cons_self hn
        exact .inl ⟨hn, b, a, S⟩
      · exact .inr ⟨hn, S⟩
theorem seg_no : ∀ {Y : List Rc} {b : Bool}, (∀ r ∈ Y, ¬ nsM r.b = some n) → SegB n b Y
  | [], _, _ => trivial
  | r :: Y, b, h => .inr ⟨h r List.mem_cons_self, seg_no fun q hq => h q (List.mem_cons_of_mem _ hq)⟩
theorem seg_split : ∀ {Y : List Rc}, SegB n false Y → (∀ r ∈ Y, ¬ nsM r.b = some n) ∨ ∃ Y1 mk Y2, Y = Y1 ++ mk :: Y2 ∧ (∀ r ∈ Y1, ¬ nsM r.b = some n) ∧ nsM mk.b = some n ∧ isMk mk.b = true ∧ isRm mk.b = false ∧ SegB n true Y2
  | [], _ => .inl fun _ h => nomatch h
  | r :: Y, S => by
    rcases S with ⟨hn, nrm, mk, S⟩ | ⟨hn, S⟩
    · exact .inr ⟨[], r, Y, rfl, (fun _ h => nomatch h), hn, mk, nrm, S⟩
    · rcases seg_split S with h | ⟨Y1, mk, Y2, rfl, h1, h2⟩
      · refine .inl fun q hq => ?_
        rcases List.mem_cons.mp hq with rfl | hq
        · exact hn
        · exact h q hq
      · refine .inr ⟨r :: Y1, mk, Y2, rfl, fun q hq => ?_, h2⟩
        rcases List.mem_cons.mp hq with rfl | hq
        · exact hn
        · exact h1 q hq
theorem seg_join : ∀ {Y1 : List Rc} {mk : Rc} {Y2 : List Rc}, (∀ r ∈ Y1, ¬ nsM r.b = some n) → nsM mk.b = some n → isMk mk.b = true → isRm mk.b = false → SegB n true Y2 → SegB n false (Y1 ++ mk :: Y2)
  | [], mk, Y2, _, a, b, c, d => .inl ⟨a, c, b, d⟩
  | r :: Y1, mk, Y2, h, a, b, c, d => .inr ⟨h r List.mem_cons_self, seg_join (fun q hq => h q (List.mem_cons_of_mem _ hq)) a b c d⟩
theorem ns_member {r : Rc} (h : nsM r.b = some n) : memberR r n = true := by
  obtain ⟨o, x, s, c, b⟩ := r
  have hw : ∀ w : Str, ¬ (w = "told") → decide (w ≠ "told") = true := fun w h => decide_eq_true h
  cases b with
  | mark d => cases h
  | leave m hb => cases hb <;> (cases h; simp [memberR, effB, spaceK, word, w57, w55])
  | preempt m v w => cases w <;> (cases h; simp [memberR, effB, spaceK, word, w57, w55])
  | _ => cases h; simp [memberR, effB, spaceK, word, w51, w52, w53, w54, w55, w56, w57]
open Classical in
theorem wf_kept {A B : List Rc} (asc : AscR A) (K : Kept A B) (w : WfN n A) : WfN n B := by
  obtain ⟨X, Y, rfl, hX, S⟩ := w
  have fB := K.filt
  generalize hp : (fun r : Rc => decide (∃ q ∈ B, q.o = r.o)) = p at fB
  have inB : ∀ r ∈ X ++ Y, r ∈ B → p r = true := fun r _ hb => by rw [← hp]; exact decide_eq_true ⟨r, hb, rfl⟩
  rw [List.filter_append] at fB
  -- the make of the last part stays
  have SB : SegB n false (Y.filter p) := by
    rcases seg_split S with h | ⟨Y1, mk, Y2, rfl, h1, h2, h3, h4, h5⟩
    · exact seg_no fun r hr => h r (List.mem_filter.mp hr).1
    · have hm : mk ∈ X ++ (Y1 ++ mk :: Y2) := by simp
      obtain ⟨z, ez⟩ : ∃ z, saysR mk (spT n) = some (.int z) := by
        rw [says_sp]
        obtain ⟨o, x, s, c, b⟩ := mk
        cases b with
        | make m z =>
          obtain rfl : m = n := Option.some.inj h2
          exact ⟨z, if_pos rfl⟩
        | _ => cases h3
      have e : X ++ (Y1 ++ mk :: Y2) = (X ++ Y1) ++ mk :: Y2 := by simp
      have hl : lastN (X ++ (Y1 ++ mk :: Y2)) (spT n) = some (mk.o, .int z) := by
        rw [e]
        refine lastN_mid ez Y2 (by rw [← e]; exact asc) fun r hr => ?_
        by_cases hn : nsM r.b = some n
        · obtain ⟨a, b⟩ := segT.mp h5 r hr hn
          refine ⟨?_, ?_⟩
          · cases er : isRem r.b (spaceK (spT n)) with
            | false => rfl
            | true => rw [isRem_iff.mp er] at b; cases b
          · rw [says_sp]
            obtain ⟨o, x, s, c, bb⟩ := r
            cases bb with
            | make m z => cases a
            | _ => rfl
        · refine ⟨?_, ?_⟩
          · cases er : isRem r.b (spaceK (spT n)) with
            | false => rfl
            | true => exact absurd (by rw [isRem_iff.mp er]; rfl) hn
          · rw [says_sp]
            obtain ⟨o, x, s, c, bb⟩ := r
            cases bb with
            | make m z => exact if_neg fun y => hn (by rw [← y]; rfl)
            | _ => rfl
      have hmB : mk ∈ B := by
        refine K.live mk hm ⟨spT n, ?_, ?_⟩
        · intro e0
          rw [lastN_eq asc, e0] at hl; cases hl
        · unfold LiveO
          rw [if_neg (show ¬ word (spT n) = "host" from (show ¬ ("space" : Str) = "host" by decide +kernel)), if_neg (show ¬ word (spT n) = "gone" from (show ¬ ("space" : Str) = "gone" by decide +kernel))]
          exact ⟨presentO _, .inl rfl, _, hl, rfl, .inl rfl⟩
      rw [List.filter_append, List.filter_cons_of_pos (inB mk hm hmB)]
      exact seg_join (fun r hr => h1 r (List.mem_filter.mp hr).1) h2 h3 h4 (segT.mpr fun r hr => segT.mp h5 r (List.mem_filter.mp hr).1)
  rcases hX with rfl | ⟨X', r, rfl, hr⟩
  · exact ⟨[], Y.filter p, fB, .inl rfl, SB⟩
  by_cases hb : r ∈ B
  · have : p r = true := inB r (by simp) hb
    refine ⟨X'.filter p ++ [r], Y.filter p, ?_, .inr ⟨_, r, rfl, hr⟩, SB⟩
    rw [fB, List.filter_append, List.filter_cons_of_pos this]; rfl
  · -- nothing of the namespace stands before it
    have no : ∀ q ∈ X', ¬ nsM q.b = some n := fun q hq hn => by
      have hrA : r ∈ (X' ++ [r]) ++ Y := by simp
      have hqA : q ∈ (X' ++ [r]) ++ Y := by simp [hq]
      have lt : q.o < r.o := (ascR_snoc (asc.sublist (List.sublist_append_left _ _))).2 q hq
      have last : ∀ y ∈ (X' ++ [r]) ++ Y, y.o > r.o → ¬ y.b = .remove n := fun y hy gt er => by
        rcases List.mem_append.mp hy with hy | hy
        · rcases List.mem_append.mp hy with hy | hy
          · have := (ascR_snoc (asc.sublist (List.sublist_append_left _ _))).2 y hy
            omega
          · rw [List.mem_singleton.mp hy] at gt; omega
        · have rm : ∀ y ∈ Y, nsM y.b = some n → isRm y.b = false := fun y hy hn => by
            rcases seg_split S with h | ⟨Y1, mk, Y2, rfl, h1, h2, h3, h4, h5⟩
            · exact absurd hn (h y hy)
            · rcases List.mem_append.mp hy with hy | hy
              · exact absurd hn (h1 y hy)
              · rcases List.mem_cons.mp hy with rfl | hy
                · exact h4
                · exact (segT.mp h5 y hy hn).2
          have := rm y hy (by rw [er]; rfl)
          rw [er] at this; cases this
      refine hb (K.live r hrA ((live_iff asc).mpr (.inr (.inr ⟨r, hrA, rfl, n, hr, ⟨q, hqA, lt, ns_member hn⟩, last⟩))))
    refine ⟨[], (X' ++ [r]).filter p ++ Y.filter p, by rw [fB]; rfl, .inl rfl, ?_⟩
    have pr : p r = false := by
      cases e : p r with
      | false => rfl
      | true =>
        rw [← hp] at e
        obtain ⟨q, hq, eo⟩ := of_decide_eq_true e
        have := asc_inj asc q (K.sub.subset hq) r (by simp) eo
        exact absurd (this ▸ hq) hb
    rw [List.filter_append, List.filter_cons_of_neg (by rw [pr]; exact Bool.false_ne_true)]
    show SegB n false ((X'.filter p ++ []) ++ Y.filter p)
    rw [List.append_nil]
    rcases seg_split SB with h | ⟨Y1, mk, Y2, e, h1, h2⟩
    · refine seg_no fun q hq => ?_
      rcases List.mem_append.mp hq with hq | hq
      · exact no q (List.mem_filter.mp hq).1
      · exact h q hq
    · rw [e, ← List.append_assoc]
      refine seg_join (fun q hq => ?_) h2.1 h2.2.1 h2.2.2.1 h2.2.2.2
      rcases List.mem_append.mp hq with hq | hq
      · exact no q (List.mem_filter.mp hq).1
      · exact h1 q hq
end
end Sg

set_option Elab.async false
set_option linter.all false
set_option maxRecDepth 100000
set_option maxHeartbeats 4000000
namespace Sg
open PySem PySem.Spec PyProof.Rows L2
/-! ### the marks of hosts, and the order -/
def lastH (rs : List Rc) (h : Int) : Option Rc := (rs.filter fun r => decide (r.h = h)).getLast?
theorem lastH_snoc {rs : List Rc} {r : Rc} {h : Int} : lastH (rs ++ [r]) h = if r.h = h then some r else lastH rs h := by
  unfold lastH
  rw [List.filter_append]
  by_cases e : r.h = h
  · rw [List.filter_cons_of_pos (by simpa using e), if_pos e, List.filter_nil, List.getLast?_concat]
  · rw [List.filter_cons_of_neg (by simpa using e), if_neg e, List.filter_nil, List.append_nil]
structure RepH (st : Sta) (rs : List Rc) : Prop where
  mr : ∀ h, lookI st.mr h = (lastH rs h).map fun r => ⟨r.s, r.c, answD (kindS r.b) r.o, nowV rs (toT h)⟩
  no : ∀ h, lastH rs h = none → nowV rs (toT h) = .none
  o : st.o = (rs.getLast?.map (·.o)).getD 0
theorem wd_to {h : Int} : strIn (word (toT h)) ["host", "told"] = true := (show strIn "told" ["host", "told"] = true by decide +kernel)
theorem now_told {rs : List Rc} {r : Rc} (asc : AscR (rs ++ [r])) (h : Int) : nowV (rs ++ [r]) (toT h) = match r.b with
    | .mark d => if r.h = h then d else nowV rs (toT h)
    | _ => nowV rs (toT h) := by
  rw [nowV_snoc asc, says_to]
  have keep : (if strIn (word (toT h)) ["host", "told"] = false ∧ isRem r.b (spaceK (toT h)) = true then PyData.none else nowV rs (toT h)) = nowV rs (toT h) := if_neg fun z => by rw [wd_to] at z; cases z.1
  obtain ⟨o, x, s, c, b⟩ := r
  cases b with
  | mark d =>
    by_cases e : x = h
    · show (match (if x = h then some d else none) with | some v => v | none => _) = if x = h then d else _
      rw [if_pos e, if_pos e]
    · show (match (if x = h then some d else none) with | some v => v | none => _) = if x = h then d else _
      rw [if_neg e, if_neg e]; exact keep
  | _ => exact keep
theorem rep_h : ∀ rs : List Rc, AscR rs → RepH (foldR rs) rs := fun rs => by
  refine snocInd (p := fun rs => AscR rs → RepH (foldR rs) rs) (fun _ => ⟨fun _ => rfl, fun _ _ => rfl, rfl⟩) (fun rs r ih asc => ?_) rs
  have R := ih (ascR_snoc asc).1
  have ef : foldR (rs ++ [r]) = lawS (foldR rs) r := by
    unfold foldR
    rw [List.foldl_append]
    exact law_eq _ _
  have tl : toldOf (foldR rs) r.h = nowV rs (toT r.h) := by
    unfold toldOf
    rw [R.mr]
    cases e : lastH rs r.h with
    | none => exact (R.no _ e).symm
    | some q => rfl
  refine ⟨fun h => ?_, fun h e => ?_, ?_⟩
  · rw [ef, now_told asc, lastH_snoc]
    show lookI (putI (foldR rs).mr r.h (markL (foldR rs) r)) h = _
    rw [lk_put]
    by_cases e : r.h = h
    · subst e
      rw [if_pos rfl, if_pos rfl]
      have et : toldL (foldR rs) r = (match r.b with | .mark d => if r.h = r.h then d else nowV rs (toT r.h) | _ => nowV rs (toT r.h)) := by
        unfold toldL
        cases hb : r.b with
        | mark d => exact (if_pos rfl).symm
        | _ => exact tl
      show some (⟨r.s, r.c, answD (kindS r.b) r.o, toldL (foldR rs) r⟩ : Mrk) = _
      rw [et]; rfl
    · rw [if_neg fun z => e z.symm, if_neg e, R.mr]
      have : (match r.b with | .mark d => if r.h = h then d else nowV rs (toT h) | _ => nowV rs (toT h)) = nowV rs (toT h) := by
        split
        · exact if_neg e
        · rfl
      rw [this]
  · rw [lastH_snoc] at e
    by_cases z : r.h = h
    · rw [if_pos z] at e; cases e
    · rw [if_neg z] at e
      rw [now_told asc]
      have : (match r.b with | .mark d => if r.h = h then d else nowV rs (toT h) | _ => nowV rs (toT h)) = nowV rs (toT h) := by
        split
        · exact if_neg z
        · rfl
      rw [this]; exact R.no h e
  · rw [ef, List.getLast?_concat]; rfl
/-! ### two states that say the same -/
def SpE : Option Spc → Option Spc → Prop
  | none, none => True
  | some a, some b => a.z = b.z ∧ (∀ p, lookI a.cs p = lookI b.cs p) ∧ (∀ h, lookI a.rg h = lookI b.rg h) ∧ a.hd = b.hd
  | _, _ => False
def CsE : Option Cells → Option Cells → Prop
  | none, none => True
  | some a, some b => ∀ p, lookI a p = lookI b p
  | _, _ => False
structure EqSt (s t : Sta) : Prop where
  o : s.o = t.o
  sp : ∀ n, SpE (lookI s.sp n) (lookI t.sp n)
  sn : ∀ n m, CsE (lookI s.sn (n, m)) (lookI t.sn (n, m))
  mr : ∀ h, lookI s.mr h = lookI t.mr h
theorem oD_inj {a b : Option Int} (h : oD a = oD b) : a = b := by
  cases a with
  | none => cases b with
    | none => rfl
    | some y => cases h
  | some x => cases b with
    | none => cases h
    | some y => injection h with h; rw [h]
theorem holdD_inj {a b : Option (Int × Str)} (h : holdD a = holdD b) : a = b := by
  cases a with
  | none => cases b with
    | none => rfl
    | some y => obtain ⟨g, w⟩ := y; cases h
  | some x =>
    obtain ⟨g, w⟩ := x
    cases b with
    | none => cases h
    | some y => obtain ⟨g', w'⟩ := y; cases h; rfl
/-- what two lists tell alike -/
structure Same2 (A C : List Rc) : Prop where
  says : Says A C
  host : ∀ h, lastH C h = lastH A h
  last : C.getLast? = A.getLast?
theorem eq_of {A C : List Rc} (ascA : AscR A) (ascC : AscR C) (S : Same2 A C) (wA : ∀ n, WfN n A) (wC : ∀ n, WfN n C) : EqSt (foldR C) (foldR A) := by
  have HA := rep_h A ascA
  have HC := rep_h C ascC
  have now : ∀ k, ¬ word k = "host" → ¬ word k = "gone" → nowV C k = nowV A k := fun k h1 h2 => S.says.now k h1 h2
  refine ⟨by rw [HC.o, HA.o, S.last], fun n => ?_, fun n m => ?_, fun h => ?_⟩
  · have RA := rep_of ascA (wA n)
    have RC := rep_of ascC (wC n)
    have z := now (spT n) (show ¬ ("space" : Str) = "host" by decide +kernel) (show ¬ ("space" : Str) = "gone" by decide +kernel)
    have c := fun p => now (plT n p) (show ¬ ("place" : Str) = "host" by decide +kernel) (show ¬ ("place" : Str) = "gone" by decide +kernel)
    have k := fun x => now (keT n x) (show ¬ ("key" : Str) = "host" by decide +kernel) (show ¬ ("key" : Str) = "gone" by decide +kernel)
    have hh := now (hoT n) (show ¬ ("hold" : Str) = "host" by decide +kernel) (show ¬ ("hold" : Str) = "gone" by decide +kernel)
    rw [RC.z, RA.z] at z
    rw [RC.h, RA.h] at hh
    have c' : ∀ p, cV (lookI (foldR C).sp n) p = cV (lookI (foldR A).sp n) p := fun p => by rw [← RC.c, ← RA.c]; exact c p
    have k' : ∀ p, kyV (lookI (foldR C).sp n) p = kyV (lookI (foldR A).sp n) p := fun p => by rw [← RC.k, ← RA.k]; exact k p
    generalize lookI (foldR C).sp n = a at z hh c' k' ⊢
    generalize lookI (foldR A).sp n = b at z hh c' k' ⊢
    cases a with
    | none => cases b with
      | none => trivial
      | some y => cases z
    | some x => cases b with
      | none => cases z
      | some y => exact ⟨by injection z, fun p => oD_inj (c' p), fun p => oD_inj (k' p), holdD_inj hh⟩
  · have RA := rep_of ascA (wA n)
    have RC := rep_of ascC (wC n)
    have s := now (snapK n m) (show ¬ ("snap" : Str) = "host" by decide +kernel) (show ¬ ("snap" : Str) = "gone" by decide +kernel)
    have e : (lookI (foldR C).sn (n, m)).isNone = (lookI (foldR A).sn (n, m)).isNone := by rw [← RC.s, ← RA.s, s]
    cases hc : lookI (foldR C).sn (n, m) with
    | none =>
      rw [hc] at e
      cases ha : lookI (foldR A).sn (n, m) with
      | none => trivial
      | some y => rw [ha] at e; cases e
    | some x =>
      rw [hc] at e
      cases ha : lookI (foldR A).sn (n, m) with
      | none => rw [ha] at e; cases e
      | some y =>
        intro p
        have ex : SnapEx A n m := by
          rw [snap_prog]
          show noneQ (nowV A (snapK n m)) = false
          rw [RA.s, ha]; rfl
        have v1 := (RC.v m x hc).2 p
        have v2 := (RA.v m y ha).2 p
        have := S.says.then_ (plT n p) m rfl ex
        rw [v1, v2] at this
        exact oD_inj this
  · rw [HC.mr, HA.mr, S.host]
    have t := now (toT h) (show ¬ ("told" : Str) = "host" by decide +kernel) (show ¬ ("told" : Str) = "gone" by decide +kernel)
    rw [t]
open Classical in
theorem kept_last {A B : List Rc} (asc : AscR A) (K : Kept A B) : (∀ h, lastH B h = lastH A h) ∧ B.getLast? = A.getLast? := by
  have fB := K.filt
  generalize hp : (fun r : Rc => decide (∃ q ∈ B, q.o = r.o)) = p at fB
  have live : ∀ r ∈ A, (∀ q ∈ A, q.h = r.h → q.o ≤ r.o) → p r = true := fun r hr h => by
    have : r ∈ B := K.live r hr ((live_iff asc).mpr (.inl ⟨r.h, (lastO_iff asc).mpr ⟨r, hr, rfl, rfl, h⟩⟩))
    rw [← hp]; exact decide_eq_true ⟨r, this, rfl⟩
  have snoc : ∀ l : List Rc, l = [] ∨ ∃ m x, l = m ++ [x] := fun l => snocInd (p := fun l => l = [] ∨ ∃ m x, l = m ++ [x]) (.inl rfl) (fun l x _ => .inr ⟨l, x, rfl⟩) l
  have key : ∀ f : Rc → Bool, (∀ r ∈ A.filter f, ∀ q ∈ A.filter f, True) → (∀ m x, A.filter f = m ++ [x] → p x = true) → (B.filter f).getLast? = (A.filter f).getLast? := fun f _ hx => by
    have e : B.filter f = (A.filter f).filter p := by
      rw [fB, List.filter_filter, List.filter_filter]
      exact List.filter_congr fun x _ => Bool.and_comm _ _
    rcases snoc (A.filter f) with h | ⟨m, x, h⟩
    · rw [e, h]; rfl
    · rw [e, h, last_filter (hx m x h), List.getLast?_concat]
  refine ⟨fun h => key _ (fun _ _ _ _ => trivial) fun m x e => ?_, ?_⟩
  · have hx : x ∈ A.filter fun r => decide (r.h = h) := by rw [e]; simp
    obtain ⟨hxA, hxh⟩ := List.mem_filter.mp hx
    have hxh := of_decide_eq_true hxh
    refine live x hxA fun q hq hqh => ?_
    have hq' : q ∈ A.filter fun r => decide (r.h = h) := List.mem_filter.mpr ⟨hq, decide_eq_true (hqh.trans hxh)⟩
    have asc2 : AscR (m ++ [x]) := e ▸ asc.sublist List.filter_sublist
    rw [e] at hq'
    rcases List.mem_append.mp hq' with z | z
    · exact Int.le_of_lt ((ascR_snoc asc2).2 q z)
    · rw [List.mem_singleton.mp z]; exact Int.le_refl _
  · rcases snoc A with h | ⟨m, x, h⟩
    · have : B = [] := by
        have := K.sub; rw [h] at this; exact List.sublist_nil.mp this
      rw [h, this]
    · have px : p x = true := live x (by rw [h]; simp) fun q hq _ => by
        rw [h] at hq asc
        rcases List.mem_append.mp hq with z | z
        · exact Int.le_of_lt ((ascR_snoc asc).2 q z)
        · rw [List.mem_singleton.mp z]; exact Int.le_refl _
      rw [fB, h, last_filter px, List.getLast?_concat]
theorem Same2.refl (A : List Rc) : Same2 A A := ⟨Says.refl A, fun _ => rfl, rfl⟩
theorem Same2.step {A B C : List Rc} (S : Same2 A B) (asc : AscR B) (K : Kept B C) : Same2 A C := by
  obtain ⟨h1, h2⟩ := kept_last asc K
  exact ⟨S.says.step K, fun h => (h1 h).trans (S.host h), h2.trans S.last⟩
end Sg

set_option Elab.async false
set_option linter.all false
set_option maxRecDepth 100000
set_option maxHeartbeats 4000000
namespace Sg
open PySem PySem.Spec PyProof.Rows L2
/-! ### == of two tables whose keys are tuples, in whatever order they stand -/
section
variable {prog : Program} {w : World} {κ : Type} [DecidableEq κ] {knd : HeapKind prog w κ} {A : Around} {E : Value → Shared → Prop} {s : Shared}
def LikeAny (prog : Program) (w : World) (A : Around) (s : Shared) (xs ys : List (κ × Addr × Value)) : Prop := xs.length = ys.length ∧ ∀ (i : Nat) x, xs[i]? = some x → ∃ (j : Nat) (y : κ × Addr × Value), ys[j]? = some y ∧ x.1 = y.1 ∧ SeqAt.EqP prog w A s x.2.2 y.2.2 true
theorem any_tabs {nm : String} {a b : Addr} {xs ys : List (κ × Addr × Value)} {Q : Bool → Shared → Prop} (na : (a == sysModules) = false) (nb : (b == sysModules) = false) (hx : s.heap.DictOfH knd a xs) (hy : s.heap.DictOfH knd b ys) (hu : knd.room A) (lk : LikeAny prog w A s xs ys) (h : Q true s) :
    wpAny (model prog w) A (Builtin.Dict.samePairs nm a b) Q E s := by
  obtain ⟨oa, ea, pa, ga, _, da, la, ka, _⟩ := hx
  obtain ⟨ob, eb, pb, gb, _, db, lb, kb, nd⟩ := hy
  have za := size_of_entries la
  have zb := size_of_entries lb
  have zz : ea.size = eb.size := by rw [za, zb, lk.1]
  unfold Builtin.Dict.samePairs Builtin.Dict.showsAll
  rw [if_neg (by rw [na]; exact Bool.false_ne_true), if_neg (by rw [nb]; exact Bool.false_ne_true)]
  refine wpAny_bind (wpAny_pure (wpAny_bind (wpAny_pure (wpAny_bind (wpAny_dictEntries ga da ?_)))))
  dsimp only
  refine wpAny_bind (wpAny_dictEntries gb db ?_)
  rw [if_neg (by rw [zz]; simp)]
  refine wpAny_bind (wpAny_dictEpoch ga da (wpAny_bind ?_))
  rw [Std.Legacy.Range.forIn_eq_forIn_range']
  simp only [Std.Legacy.Range.size, Nat.sub_zero, Nat.add_sub_cancel, Nat.div_one]
  refine wpAny_forIn_list _ (fun rest q u => u = s ∧ q = (none, ()) ∧ ∃ i, rest = List.range' i (ea.size - i) ∧ i ≤ ea.size) _ ?_ ?_ _ _ ⟨rfl, rfl, 0, by simp, Nat.zero_le _⟩
  · rintro i rest q u ⟨rfl, rfl, j, hr, _⟩
    have lt : j < ea.size := by
      rcases Nat.lt_or_ge j ea.size with c | c
      · exact c
      · rw [Nat.sub_eq_zero_of_le c] at hr; simp at hr
    rw [show ea.size - j = (ea.size - (j + 1)) + 1 from by omega, List.range'_succ] at hr
    obtain ⟨rfl, hrest⟩ := List.cons.inj hr
    obtain ⟨x, hxi⟩ : ∃ x, xs[i]? = some x := ⟨xs[i]'(by omega), List.getElem?_eq_getElem (by omega)⟩
    obtain ⟨jy, y, hyi, ek, eq⟩ := lk.2 i x hxi
    have enx : ea[i]? = some (entryOfKey knd x) := by rw [entry_at la i, hxi]; rfl
    refine wpAny_bind (wpAny_dictEntries ga da ?_)
    rw [enx]
    have hkx := ka x (List.mem_of_getElem? hxi)
    refine wpAny_bind (wpAny_holding (wpAny_bind (wpAny_dictFind_heap hu hkx gb db lb kb nd (fun no => absurd (show ys[jy]? = some (x.1, y.2) by rw [hyi, ek]) (no jy y.2)) fun j' p hj' => ?_)))
    have ji : j' = jy := by
      have e1 : (ys.map (·.1))[j']? = some x.1 := by rw [List.getElem?_map, hj']; rfl
      have e2 : (ys.map (·.1))[jy]? = some x.1 := by rw [List.getElem?_map, hyi, ek]; rfl
      have l1 := (List.getElem?_eq_some_iff.mp e1).1
      have l2 := (List.getElem?_eq_some_iff.mp e2).1
      have ee := (List.getElem?_eq_some_iff.mp e1).2.trans (List.getElem?_eq_some_iff.mp e2).2.symm
      rcases Nat.lt_trichotomy j' jy with c | c | c
      · exact absurd ee ((List.pairwise_iff_getElem.mp nd) j' jy l1 l2 c)
      · exact c
      · exact absurd ee.symm ((List.pairwise_iff_getElem.mp nd) jy j' l2 l1 c)
    subst ji
    have eny : eb[j']? = some (entryOfKey knd y) := by rw [entry_at lb j', hyi]; rfl
    refine wpAny_bind (wpAny_dictEntries gb db ?_)
    rw [eny]
    refine wpAny_holding (eq _ _ ?_)
    show wpAny _ _ (if (!true) = true then _ else _) _ _ _
    rw [if_neg (by decide)]
    refine wpAny_bind (wpAny_dictEpoch ga da ?_)
    rw [if_neg (by simp)]
    exact wpAny_pure ⟨rfl, rfl, i + 1, hrest, lt⟩
  · rintro q u ⟨rfl, rfl, _⟩
    exact wpAny_pure h
theorem eq_tabsA {a b : Addr} {xs ys : List (κ × Addr × Value)} (na : (a == sysModules) = false) (nb : (b == sysModules) = false) (hx : s.heap.DictOfH knd a xs) (hy : s.heap.DictOfH knd b ys) (hu0 : A.units < cLine) (hu : knd.room A.in1) (lk : LikeAny prog w A.in1 s xs ys) (E Q : Value → Shared → Prop) (h : Q (.bool true) s) :
    wpAny (model prog w) A (richCompare .Eq (.ref a) (.ref b)) Q E s := by
  refine wpAny_richCompare_same_room (op := .Eq) hx.typeIs hy.typeIs PySem.F.slot_dict_eq (wpAny_call_entry PySem.F.slot_dict_eq hx.typeIs PySem.F.entry_dict_eq ?_ (PySem.F.args_dict_eq_2 _ _)) hu0
  show wpAny _ _ (Builtin.Dict.dictSlotArgs "__eq__" ⟨[.ref a, .ref b], []⟩ >>= _) _ _ s
  unfold Builtin.Dict.dictSlotArgs
  refine wpAny_bind (wpAny_bind (wpAny_notOrdered_dict hx.typeIs ?_))
  show wpAny _ _ (pure (Value.ref a, Value.ref b)) _ _ s
  refine wpAny_pure (wpAny_bind (wpAny_isInstance (T := "dict") hy.typeIs PySem.F.sub_dict_dict ?_))
  simp only [Bool.not_true, Bool.false_eq_true, if_false]
  refine wpAny_bind (wpAny_pure (wpAny_bind (wpAny_pure (wpAny_bind (any_tabs na nb hx hy hu lk ?_)))))
  exact wpAny_pure ⟨_, rfl, (fun x => nomatch x), h⟩
end
def EqTA (K : PySem.W.Frag) (H : Hp) (E : V → V → Prop) (x y : V) : Prop :=
  (∃ a b xs ys, x = .ref a ∧ y = .ref b ∧ SqT K H a xs ∧ SqT K H b ys ∧ Paired E xs ys) ∨
  (∃ a b ks ls, x = .ref a ∧ y = .ref b ∧ H a = some (.dK ks) ∧ H b = some (.dK ls) ∧ ks.length = ls.length ∧ ∀ p ∈ ks, ∃ u, valV ls p.1 = some u ∧ E p.2 u) ∨
  ∃ a b ks ls, x = .ref a ∧ y = .ref b ∧ H a = some (.dT ks) ∧ H b = some (.dT ls) ∧ ks.length = ls.length ∧ ∀ p ∈ ks, ∃ u, valV ls p.1 = some u ∧ E p.2 u
def EqSA (K : PySem.W.Frag) (H : Hp) : Nat → V → V → Prop
  | 0 => fun _ _ => False
  | n + 1 => fun x y => (∃ d, Dp K H x d ∧ Dp K H y d ∧ d.canLay0 = true ∧ d.depth ≤ 64) ∨ EqTA K H (EqSA K H n) x y
theorem like_any {P : Program} {w : World} {A : Around} {s : Shared} {H : Hp} {F : V → V → Prop} (ih : ∀ x y v u, F x y → RelV x v → RelV y u → SeqAt.EqP P w A s v u true) {ks ls : List (List Key × V)} (hl : ks.length = ls.length) (h : ∀ p ∈ ks, ∃ u, valV ls p.1 = some u ∧ F p.2 u)
    {xs ys : List (List Key × Addr × Value)} (rx : KT H ks xs) (ry : KT H ls ys) : LikeAny P w A s xs ys := by
  have l1 := Paired.length rx
  have l2 := Paired.length ry
  refine ⟨by omega, fun i x hx => ?_⟩
  have il := (List.getElem?_eq_some_iff.mp hx).1
  obtain ⟨x', hx', q1, _, q3⟩ := paired_get rx (show ks[i]? = some (ks[i]'(by omega)) from List.getElem?_eq_getElem (by omega))
  rw [hx] at hx'; cases hx'
  obtain ⟨u, hu, hf⟩ := h _ (List.getElem_mem (show i < ks.length by omega))
  have r := ry.val (ks[i]'(by omega)).1
  rw [hu] at r
  cases e : atKey ys (ks[i]'(by omega)).1 with
  | none => rw [e] at r; exact (show False from r).elim
  | some p =>
    rw [e] at r
    unfold atKey at e
    cases f : ys.find? fun y => decide (y.1 = (ks[i]'(by omega)).1) with
    | none => rw [f] at e; cases e
    | some y =>
      rw [f] at e
      have ey : y.2 = p := Option.some.inj e
      have hy := List.mem_of_find?_eq_some f
      have ek : y.1 = (ks[i]'(by omega)).1 := of_decide_eq_true (by simpa using List.find?_some f)
      obtain ⟨j, hj⟩ := List.mem_iff_getElem?.mp hy
      refine ⟨j, y, hj, q1.symm.trans ek.symm, ih _ _ _ _ hf q3 ?_⟩
      rw [ey]; exact r
section
variable {X : Cx} {pins : List (Addr × Obj)} {σ : L2.St} {H : Hp} {s : Shared}
theorem eqTA_run (I : L2.Inv X pins σ H s) {A : Around} {F : V → V → Prop} (hu : A.units + 1 < cLine) (ih : ∀ x y v u, F x y → RelV x v → RelV y u → SeqAt.EqP X.prog X.w A.in1 s v u true) {x y : V} {v u : Value} (h : EqTA X.K H F x y) (rx : RelV x v) (ry : RelV y u)
    (E Q : Value → Shared → Prop) (q : Q (.bool true) s) : wpAny (model X.prog X.w) A (richCompare .Eq v u) Q E s := by
  rcases h with ⟨a, b, xs, ys, rfl, rfl, ha, hb, hp⟩ | ⟨a, b, ks, ls, rfl, rfl, ha, hb, hl, hp⟩ | ⟨a, b, ks, ls, rfl, rfl, ha, hb, hl, hp⟩
  · exact eqT_run I hu ih (.inl ⟨a, b, xs, ys, rfl, rfl, ha, hb, hp⟩) rx ry E Q q
  · exact eqT_run I hu ih (.inr (.inl ⟨a, b, ks, ls, rfl, rfl, ha, hb, hl, hp⟩)) rx ry E Q q
  · obtain rfl : v = Value.ref a := rx
    obtain rfl : u = Value.ref b := ry
    obtain ⟨_, ya, va, ra, da⟩ := dt_of I.hok ha
    obtain ⟨_, yb, vb, rb, db⟩ := dt_of I.hok hb
    exact eq_tabsA (knd := tupleKind (mixKind X.prog X.w)) ya yb da db (by omega) (tupleKind_room_in1 hu) (like_any ih hl hp ra rb) E Q q
theorem eqSA_run (I : L2.Inv X pins σ H s) : ∀ (n : Nat) (A : Around), A.units + n + 65 < cLine → ∀ (x y : V) (v u : Value), EqSA X.K H n x y → RelV x v → RelV y u → SeqAt.EqP X.prog X.w A s v u true
  | 0, _, _, _, _, _, _, h, _, _ => (show False from h).elim
  | n + 1, A, hu, x, y, v, u, h, rx, ry => by
    rcases h with ⟨d, hd, he, hl, hdp⟩ | h
    · obtain ⟨as, r1⟩ := Dp.reads I d x v hd rx
      obtain ⟨bs, r2⟩ := Dp.reads I d y u he ry
      have := (SeqAt.eqAt_reads d d A s v u as bs r1 r2 hl hl (by rw [Nat.min_self]; omega)).eqP (prog := X.prog) (w := X.w)
      rw [SeqAt.eqv_refl d hl] at this; exact this
    · have step := eqTA_run I (A := A) (by omega) (eqSA_run I n A.in1 (by show A.units + 1 + n + 65 < cLine; omega)) h rx ry
      obtain ⟨a, b, rfl, rfl⟩ : ∃ a b, x = .ref a ∧ y = .ref b := by
        rcases h with ⟨a, b, _, _, e1, e2, _⟩ | ⟨a, b, _, _, e1, e2, _⟩ | ⟨a, b, _, _, e1, e2, _⟩ <;> exact ⟨a, b, e1, e2⟩
      obtain rfl : v = Value.ref a := rx
      obtain rfl : u = Value.ref b := ry
      by_cases e : a = b
      · subst e
        exact (SeqAt.EqAt.same _).eqP
      · exact SeqAt.eqP_refs e step
def rEqSA (K : PySem.W.Frag) : R2 := fun x y H Q => ∃ n, n ≤ 10 ∧ EqTA K H (EqSA K H n) x y ∧ Q (.bl true) H
theorem op_eqSA (hu : X.A.units + 80 < cLine) : OpR X (compareOp .Eq) (rEqSA X.K) := by
  intro pins s σ H x y v u Q I rx ry h
  obtain ⟨n, hn, h, q⟩ := h
  exact eqTA_run I (A := X.A) (by omega) (eqSA_run I n X.A.in1 (by show X.A.units + 1 + n + 65 < cLine; omega)) h rx ry _ _ ⟨.bl true, H, I, rfl, q⟩
def rNeSA (K : PySem.W.Frag) : R2 := fun x y H Q => ∃ (n : Nat) (a b : Addr) (ks ls : List (Key × V)), n ≤ 10 ∧ x = .ref a ∧ y = .ref b ∧ H a = some (.dK ks) ∧ H b = some (.dK ls) ∧ ks.length = ls.length ∧ (∀ p ∈ ks, ∃ u, valV ls p.1 = some u ∧ EqSA K H n p.2 u) ∧ Q (.bl false) H
theorem op_neSA (hu : X.A.units + 80 < cLine) : OpR X (compareOp .NotEq) (rNeSA X.K) := by
  intro pins s σ H x y v u Q I rx ry h
  obtain ⟨n, a, b, ks, ls, hn, rfl, rfl, ha, hb, hl, hp, q⟩ := h
  obtain rfl : v = Value.ref a := rx
  obtain rfl : u = Value.ref b := ry
  obtain ⟨_, ya, va, ra, da⟩ := (show ObjOk X.prog X.w H s.heap a (.dK ks) from I.hok a _ ha)
  obtain ⟨_, yb, vb, rb, db⟩ := (show ObjOk X.prog X.w H s.heap b (.dK ls) from I.hok b _ hb)
  exact ne_dicts (knd := mixKind X.prog X.w) ya yb da db (by omega) (by rw [← ra.length, ← rb.length]; exact hl) (hits_run (eqSA_run I n X.A.in1 (by show X.A.units + 1 + n + 65 < cLine; omega)) rb ra hp) ⟨.bl false, H, I, rfl, q⟩
end
end Sg

set_option Elab.async false
set_option linter.all false
set_option maxRecDepth 100000
set_option maxHeartbeats 4000000
namespace Sg
open PySem PySem.Spec PyProof.Rows L2
/-! ### what is left -/
theorem rec_eqv {z r : Rc} (h : ¬ z.o = r.o) : PyData.eqv (recDt z) (recDt r) = false := by
  simp [recDt, PyData.eqv, PyData.eqvAll, h]
theorem recs_any {l : List Rc} {r : Rc} (hg : RGood r) (h : ∀ z ∈ l, z.o = r.o → z = r) : (l.map recDt).any (fun z => PyData.eqv z (recDt r)) = true ↔ r ∈ l := by
  rw [List.any_eq_true]
  constructor
  · rintro ⟨d, hd, e⟩
    obtain ⟨z, hz, rfl⟩ := List.mem_map.mp hd
    by_cases c : z.o = r.o
    · rw [← h z hz c]; exact hz
    · rw [rec_eqv c] at e; cases e
  · intro hr
    exact ⟨recDt r, List.mem_map.mpr ⟨r, hr, rfl⟩, SeqAt.eqv_refl _ hg.l⟩
def spLLeft (K : PySem.W.Frag) : Sp := fun vs H Q _ => ∃ (a : Addr) (ts : List Addr) (A : List Rc) (cell : Int), vs = [.ref a, .int cell] ∧ H a = some (.lst (ts.map V.ref)) ∧ Paired (RecAt K H) ts A ∧ AscR A ∧ (∀ r ∈ A, RGood r) ∧ A.length ≤ 40 ∧
  ∀ l ts' B H', Same H H' → H' l = some (.lst (ts'.map V.ref)) → Paired (RecAt K H') ts' B → Kept A B → Q (.ref l) H'
section
variable {P : Program} {wd : World} {K : PySem.W.Frag} {mg : Str → Option Value} {base : Heap} {f fL : Addr} {fd fdL : FuncData}
theorem scLLeft : FnScope ["records", "cell", "live", "left", "rest", "record"] ["records", "cell"] (defScope sLLeft) := ⟨rfl, rfl, rfl, by decide +kernel, rfl, by decide +kernel, by decide +kernel⟩
theorem ok_lleft (F : Fun K "_law_left" "_law_left" sLLeft f fd) (I0 : mg "int" = none) (PL : Def P wd K mg base CX0 "live_records" 6 ["records"] (spLiveRec K) fL fdL) : FnOk P wd K mg base CX0 7 f fd ["records", "cell"] (spLLeft K) := by
  refine F.ok scLLeft (fun vs H Q E h => ?_) (fun cdv A outer s H vs Q E hr h => ?_)
  · obtain ⟨a, ts, A, cell, rfl, _⟩ := h
    rfl
  · obtain ⟨a, ts, A, cell, rfl, ha, pr, asc, gA, lA, q⟩ := h
    have hr6 : Room 6 _ := hr
    refine ⟨_, (pss_cons (ps_set (i := 2) scLLeft.nd rfl (Or.inl rfl) (pe_call PL.ok hr6 (by rfl) PL.mg PL.kp PL.bd .nil pass0 (pa_cons (pv 0) pa_nil)))
      (pss_cons (ps_set (i := 3) scLLeft.nd rfl (Or.inl rfl) (pe_lst pa_nil))
      (pss_cons (ps_set (i := 4) scLLeft.nd rfl (Or.inl rfl) (pe_callTy call_int1 (by rfl) I0 (by decide +kernel) (pa_cons (pv 1) pa_nil)))
      (pss_cons (ps_for PassesOwn.never rfl (pi_list (pv 0)) (pg_name (i := 5) scLLeft.nd rfl (Or.inl rfl))
      (Evl.pss_cut (ps_if (PW.pt (pw_or (pt_cmpR (op_inD (hu65 hr)) (pv 5) (pv 2) (by rfl)) (pw_or1 (pt_cmpR op_eq (pe_op op_mod (pv 4) pe_int) pe_int (nomark _)))))
      (pss_one (ps_expr (pe_bm PySem.F.plainAttrs_list PySem.F.slot_list_append PySem.F.type_list_append mt_append (pv 3) (pa_cons (pv 5) pa_nil)))) pss_nil)
      (pss_one (ps_set (i := 4) scLLeft.nd rfl (Or.inl rfl) (pe_op op_fdiv (pv 4) pe_int)))))
      (pss_one (ps_ret (pv 3))))))), ?_⟩
    have tl := Paired.length pr
    refine ⟨_, rfl, a, ts, A, rfl, SqL.of ha, pr, ⟨by omega, gA, asc_inj asc⟩, fun l2 ts2 B2 H1 s1 hl2 hl2' p2 a2 m2 _ => ?_⟩
    obtain rfl : B2 = A := asc_uniq a2 asc m2
    have gL : ∀ r ∈ progL B2, RGood r := fun r hr => gA r (progL_sub.subset hr)
    have anyR : ∀ r ∈ B2, (((progL B2).map recDt).any (fun z => PyData.eqv z (recDt r)) = true ↔ r ∈ progL B2) := fun r hr => recs_any (gA r hr) fun z hz e => asc_inj asc z (progL_sub.subset hz) r hr e
    refine ⟨by show 0 ≤ sizeLine; decide, fun kp hkp => ?_⟩
    have s2 := same_new (o := .lst []) hkp
    have hkp2 : (upd H1 kp (.lst [])) kp = some (.lst []) := upd_same
    have ha1 := s1 _ _ ha
    have k4 : a ≠ kp := ne_of_none ha1 hkp
    have k5 : l2 ≠ kp := ne_of_none hl2' hkp
    have hkpH : H kp = none := by
      cases e : H kp with
      | none => rfl
      | some o => rw [s1 _ _ e] at hkp; cases hkp
    have s12 := s1.trans s2
    have ha2 := s12 _ _ ha
    have hl22 := s2 _ _ hl2'
    have p22 : Paired (RecAt K (upd H1 kp (.lst []))) ts2 (progL B2) := Paired.imp2 (fun _ _ z => z.same s2) p2
    have pr2 : Paired (RecAt K (upd H1 kp (.lst []))) ts B2 := Paired.imp2 (fun _ _ z => z.same s12) pr
    generalize upd H1 kp (.lst []) = H2 at s12 hkp2 ha2 hl22 p22 pr2
    refine ⟨_, rfl, .inl ⟨_, rfl, ?_⟩⟩
    refine ⟨_, rfl, a, rfl, ⟨_, SqL.of ha2⟩, ?_⟩
    refine for_list (K := K) (a := a) (xs := ts.map V.ref) (fun j σ Hx => ∃ (rest : Int) (v5 : Option V) (tc : List Addr) (Cs : List Rc), σ = [some (.ref a), some (.int cell), some (.ref l2), some (.ref kp), some (.int rest), v5] ∧ Off [kp] H2 Hx ∧ TK H2 Hx ∧ Hx kp = some (.lst (tc.map V.ref)) ∧ Paired (RecAt K Hx) tc Cs ∧ Cs.Sublist (B2.take j) ∧ ∀ r ∈ B2.take j, r ∈ progL B2 → r ∈ Cs)
      ⟨cell, _, [], [], rfl, fun _ _ e _ => e, TK.refl _, hkp2, .nil, by rw [List.take_zero]; exact List.Sublist.refl [], fun r hr => by simp at hr⟩ (fun j σ' Hx _ ⟨_, _, _, _, _, o, _⟩ => SqL.of (o _ _ ha2 (by simpa using k4))) ?_ ?_
    · rintro j y σ' Hx hy ⟨rest, v5, tc, Cs, rfl, oX, tX, hkpX, pC, subC, hasC⟩
      obtain ⟨t, hti, rfl⟩ := map_get hy
      have prX := paired_rtk tX gA pr2
      have p2X := paired_rtk tX gL p22
      have hl2X := oX _ _ hl22 (by simpa using k5)
      obtain ⟨r, hri, hrt⟩ := paired_at prX hti
      have hrm := List.mem_of_getElem? hri
      have tkB : B2.take (j + 1) = B2.take j ++ [r] := by rw [List.take_add_one, hri]; rfl
      have gC : ∀ r ∈ Cs, RGood r := fun x hx => gA x (List.mem_of_mem_take (subC.subset hx))
      have tcl := Paired.length pC
      have cl : Cs.length ≤ 40 := Nat.le_trans (Nat.le_trans subC.length_le (List.length_take_le _ _)) (by
        have := (List.getElem?_eq_some_iff.mp hri).1
        omega)
      have fin : ∀ (G : Hp) (tc' : List Addr) (Cs' : List Rc), Off [kp] H2 G → TK H2 G → G kp = some (.lst (tc'.map V.ref)) → Paired (RecAt K G) tc' Cs' → Cs'.Sublist (B2.take (j + 1)) → (∀ r ∈ B2.take (j + 1), r ∈ progL B2 → r ∈ Cs') → ∃ (rest : Int) (v5 : Option V) (tc : List Addr) (Cs : List Rc), [some (.ref a), some (.int cell), some (.ref l2), some (.ref kp), some (.int rest), some (.ref t)] = [some (.ref a), some (.int cell), some (.ref l2), some (.ref kp), some (.int rest), v5] ∧ Off [kp] H2 G ∧ TK H2 G ∧ G kp = some (.lst (tc.map V.ref)) ∧ Paired (RecAt K G) tc Cs ∧ Cs.Sublist (B2.take (j + 1)) ∧ ∀ r ∈ B2.take (j + 1), r ∈ progL B2 → r ∈ Cs :=
        fun G tc' Cs' a1 a2 a3 a4 a5 a6 => ⟨rest, _, tc', Cs', rfl, a1, a2, a3, a4, a5, a6⟩
      refine ⟨fun σ' G => ∃ (tc' : List Addr) (Cs' : List Rc), σ' = [some (.ref a), some (.int cell), some (.ref l2), some (.ref kp), some (.int rest), some (.ref t)] ∧ Off [kp] H2 G ∧ TK H2 G ∧ G kp = some (.lst (tc'.map V.ref)) ∧ Paired (RecAt K G) tc' Cs' ∧ Cs'.Sublist (B2.take (j + 1)) ∧ ∀ r ∈ B2.take (j + 1), r ∈ progL B2 → r ∈ Cs', ?_, ?_⟩
      · have add : ∃ (tc' : List Addr) (Cs' : List Rc), [some (V.ref a), some (.int cell), some (.ref l2), some (.ref kp), some (.int rest), some (.ref t)] = [some (V.ref a), some (.int cell), some (.ref l2), some (.ref kp), some (.int rest), some (.ref t)] ∧ Off [kp] H2 (upd Hx kp (.lst (tc.map V.ref ++ [.ref t]))) ∧ TK H2 (upd Hx kp (.lst (tc.map V.ref ++ [.ref t]))) ∧ (upd Hx kp (.lst (tc.map V.ref ++ [.ref t]))) kp = some (.lst (tc'.map V.ref)) ∧ Paired (RecAt K (upd Hx kp (.lst (tc.map V.ref ++ [.ref t])))) tc' Cs' ∧ Cs'.Sublist (B2.take (j + 1)) ∧ ∀ r ∈ B2.take (j + 1), r ∈ progL B2 → r ∈ Cs' := by
          have tkp := tk_lst (xs' := tc.map V.ref ++ [.ref t]) hkpX
          refine ⟨tc ++ [t], Cs ++ [r], rfl, oX.trans (Off.upd (by simp)), tX.trans tkp, by rw [List.map_append]; exact upd_same, paired_rtk tkp (fun x hx => by
            rcases List.mem_append.mp hx with hx | hx
            · exact gC x hx
            · rw [List.mem_singleton.mp hx]; exact gA r hrm) (paired_append pC (.cons hrt .nil)), by rw [tkB]; exact subC.append (List.Sublist.refl [r]), fun x hx hxl => ?_⟩
          rw [tkB] at hx
          rcases List.mem_append.mp hx with hx | hx
          · exact List.mem_append.mpr (.inl (hasC x hx hxl))
          · exact List.mem_append.mpr (.inr hx)
        have app : tDrop (tBM K "list" rAppend (tVar 3) (tCons (tVar 5) tNil)) { nx := fun σ' G => ∃ (tc' : List Addr) (Cs' : List Rc), σ' = [some (.ref a), some (.int cell), some (.ref l2), some (.ref kp), some (.int rest), some (.ref t)] ∧ Off [kp] H2 G ∧ TK H2 G ∧ G kp = some (.lst (tc'.map V.ref)) ∧ Paired (RecAt K G) tc' Cs' ∧ Cs'.Sublist (B2.take (j + 1)) ∧ ∀ r ∈ B2.take (j + 1), r ∈ progL B2 → r ∈ Cs', rt := Q } [some (.ref a), some (.int cell), some (.ref l2), some (.ref kp), some (.int rest), some (.ref t)] Hx :=
          ⟨_, rfl, .inl ⟨rfl, _, SqL.of hkpX⟩, _, rfl, nil_ ⟨kp, _, _, rfl, rfl, hkpX, by rw [List.length_map]; exact small1000 (by omega), add⟩⟩
        refine ⟨_, rfl, _, rfl, _, _, hrt.dp, .lst (SqL.of hl2X) (recs_dp p2X), (gA r hrm).sh, recs_sh gL, _, rfl, ?_⟩
        cases c : ((progL B2).map recDt).any (fun z => PyData.eqv z (recDt r)) with
        | true => exact iteT (iteT app)
        | false =>
          have nr : r ∉ progL B2 := fun h => by
            have := (anyR r hrm).mpr h
            rw [c] at this; cases this
          refine iteF ⟨_, rfl, _, _, rfl, rfl, (show (0 : Int) < 2 by decide), rfl, _, rfl, ?_⟩
          refine ite2 (fun _ => app) (fun _ => ?_)
          exact ⟨tc, Cs, rfl, oX, tX, hkpX, pC, by rw [tkB]; exact subC.trans (List.sublist_append_left _ _), fun x hx hxl => by
            rw [tkB] at hx
            rcases List.mem_append.mp hx with hx | hx
            · exact hasC x hx hxl
            · rw [List.mem_singleton.mp hx] at hxl; exact absurd hxl nr⟩
      rintro σ' G ⟨tc', Cs', rfl, a1, a2, a3, a4, a5, a6⟩
      exact ⟨_, rfl, _, _, rfl, rfl, ⟨show (0 : Int) < 2 by decide, show (2 : Int) < 1073741824 by decide⟩, _, _, tc', Cs', rfl, a1, a2, a3, a4, a5, a6⟩
    · rintro σ' Hx ⟨rest, v5, tc, Cs, rfl, oX, tX, hkpX, pC, subC, hasC⟩
      rw [List.length_map, tl, List.take_length] at subC hasC
      have kept : Kept B2 Cs := kept_of asc subC fun r hr => hasC r (progL_sub.subset hr) hr
      refine ⟨_, rfl, q kp tc Cs Hx (fun b o e => ?_) hkpX pC kept⟩
      have nb : b ≠ kp := fun z => by rw [z, hkpH] at e; cases e
      exact oX _ _ (s12 _ _ e) (by simpa using nb)
end
end Sg

set_option Elab.async false
set_option linter.all false
set_option maxRecDepth 100000
set_option maxHeartbeats 4000000
namespace Sg
open PySem PySem.Spec PyProof.Rows L2
/-! ### the step that the law draws -/
section
variable {K : PySem.W.Frag} {κ : Type} [DecidableEq κ]
/-- [x for x in d if ..]: the keys that are left -/
theorem keepK_te (T : TKd K κ) {σ : L2.St} {H : Hp} {Q : VK} {td : TE} {jx : Nat} {d : Addr} {kvs : List (κ × V)} {tt : TT} (f : κ → Bool) (hjx : jx < σ.length)
    (ht : ∀ (H1 : Hp) (R : VK), (∀ b o, b ≠ d → H b = some o → H1 b = some o) → R (.ref d) H1 → td σ H1 R)
    (hd : H d = some (T.ho kvs)) (hl : kvs.length ≤ 1000)
    (he : ∀ x k H' (Q' : Bool → Hp → Prop), k ∈ kvs.map (·.1) → T.at' H' x k → TK H H' → Q' (f k) H' → tt ((σ.set jx none).set jx (some x)) H' Q')
    (q : ∀ D xs H', Same H H' → H' D = some (.lst xs) → Paired (fun x (kv : κ × V) => T.at' H' x kv.1) xs (kvs.filter fun p => f p.1) → Q (.ref D) H') :
    tLockE (tLc (iKeys td) (gName jx) tt (tVar jx) [jx]) σ H Q := by
  refine ⟨d, T.ho kvs, hd, T.mt _, fun od => ?_⟩
  have tk1 : TK H (upd H d (.frz od (T.ho kvs))) := tk_upd hd (T.nt kvs).1 (T.nt kvs).2
  have hd1 : (upd H d (.frz od (T.ho kvs))) d = some (.frz od (T.ho kvs)) := upd_same
  have lk := fun H' (s : Same (upd H d (.frz od (T.ho kvs))) H') => lock_same hd rfl s
  have ne : ∀ b o, b ≠ d → H b = some o → (upd H d (.frz od (T.ho kvs))) b = some o := fun b o n e => by rw [upd_ne n]; exact e
  generalize upd H d (.frz od (T.ho kvs)) = H1 at tk1 hd1 lk ne
  refine ht H1 _ ne ⟨d, od, rfl, T.walk (R := fun J G => ∀ D, G D = none → ∃ W : Nat → Nat → Hp → Prop, (∃ m, W 0 m (upd G D (.lst []))) ∧ ∀ i m H, W i m H →
      (J.stop i H ∧ H d = some (.frz od (T.ho kvs)) ∧ Q (.ref D) (upd H d (T.ho kvs))) ∨ (J.go i H ∧ ∃ Nx : Hp → Prop, (∀ H', Nx H' → ∃ m', m' < m ∧ W (i + 1) m' H') ∧ ∀ x H', J.yld i H x H' → gName jx x (wipe σ [jx]) H' fun σ2 H2 => wipe σ2 [jx] = wipe σ [jx] ∧ tt σ2 H2 fun b H3 =>
        if b = true then tVar jx σ2 H3 fun y H4 => ∃ acc, H4 D = some (.lst acc) ∧ acc.length < sizeLine ∧ Nx (upd H4 D (.lst (acc ++ [y]))) else Nx H3)) hd1 fun J w D hD => ?_⟩
  refine lc_it w (fun i H' => Same H1 H' ∧ ∃ xs, H' D = some (.lst xs) ∧ Paired (fun x (kv : κ × V) => T.at' H' x kv.1) xs ((kvs.take i).filter fun p => f p.1)) ⟨same_new hD, [], upd_same, .nil⟩ (fun i H' _ p => p.1 _ _ hd1) ?_ ?_
  · rintro i x H' H'' hi ⟨sm, xs, hDi, pr⟩ ⟨rfl, k, v, hki, hat⟩
    have g1 : ((wipe σ [jx]).set jx (some x))[jx]? = some (some x) := by
      rw [List.getElem?_set_self (by rw [wipe_length]; exact hjx)]
    refine ⟨?_, ?_⟩
    · show ((σ.set jx none).set jx (some x)).set jx none = σ.set jx none
      rw [List.set_set, List.set_set]
    · refine he x k H'' _ (List.mem_map.mpr ⟨_, List.mem_of_getElem? hki, rfl⟩) hat (tk1.trans (TK.of sm)) ?_
      have tks : (kvs.take (i + 1)).filter (fun p => f p.1) = (kvs.take i).filter (fun p => f p.1) ++ (if f k = true then [(k, v)] else []) := by
        rw [List.take_add_one, hki, List.filter_append]
        by_cases c : f k = true <;> simp [c]
      by_cases c : f k = true
      · refine chooseT' c ?_
        have pl := Paired.length pr
        have fl : ((kvs.take i).filter fun p => f p.1).length ≤ (kvs.take i).length := List.length_filter_le _ _
        have lt : (kvs.take i).length ≤ 1000 := by rw [List.length_take]; omega
        refine ⟨_, g1, xs, hDi, small1000 (by omega), fun b o e => ?_, xs ++ [x], upd_same, ?_⟩
        · have : b ≠ D := fun z => by rw [z, hD] at e; cases e
          rw [upd_ne this]; exact sm _ _ e
        · have t3 : TK H'' (upd H'' D (.lst (xs ++ [x]))) := tk_upd hDi (fun _ z => nomatch z) (fun _ _ z => nomatch z)
          rw [tks, if_pos c]
          generalize upd H'' D (.lst (xs ++ [x])) = H5 at t3
          exact pr_snoc (R := fun x (kv : κ × V) => T.at' H5 x kv.1) (T.tk t3 hat) (Paired.imp2 (fun (x : V) (kv : κ × V) (z : T.at' H'' x kv.1) => T.tk t3 z) pr)
      · refine chooseF' (by simpa using c) ⟨sm, xs, hDi, ?_⟩
        rw [tks, if_neg c, List.append_nil]; exact pr
  · rintro H' ⟨sm, xs, hDn, pr⟩
    have hdn := sm _ _ hd1
    have nDd : D ≠ d := fun z => by rw [z, hd1] at hD; cases hD
    refine ⟨hdn, q D xs _ (lk _ sm) (by rw [upd_ne nDd]; exact hDn) ?_⟩
    rw [List.take_length] at pr
    exact Paired.imp2 (fun (x : V) (kv : κ × V) (z : T.at' H' x kv.1) => T.tk (tk_unlock hdn (T.nt kvs).1) z) pr
end
theorem chooseB {b : Bool} {A B : Prop} (h1 : b = true → A) (h2 : b = false → B) : if b = true then A else B := by
  cases b with
  | true => exact iteT (h1 rfl)
  | false => exact chooseF rfl (h2 rfl)
def cutT (t : TT) : TT := fun σ H Q => ∃ C : Bool → Hp → Prop, t σ H C ∧ ∀ b H', C b H' → Q b H'
theorem ptcut {X : Cx} {e : Expr} {t : TT} (h : PT X e t) : PT X e (cutT t) :=
  ⟨fun pins s σ H Q I ⟨C, hC, k⟩ => thn (h.run pins s σ H C I hC) fun b s1 q => by
    obtain ⟨H', I', c⟩ := q
    exact ⟨H', I', k _ _ c⟩⟩
/-- all but one object stays -/
def Kp (F : Addr) (H H' : Hp) : Prop := ∀ b o, b ≠ F → H b = some o → H' b = some o
theorem Kp.trans {F : Addr} {H H' H'' : Hp} (a : Kp F H H') (b : Kp F H' H'') : Kp F H H'' := fun x o n e => b x o n (a x o n e)
theorem Kp.of {F : Addr} {H H' : Hp} (s : Same H H') : Kp F H H' := fun x o _ e => s x o e
theorem put_f {σ : L2.St} {H : Hp} {D : Ends} {r : TS} {F : Addr} {kvs kvs' : List (Key × V)} {k : Str} {ta : TA} {ys : List V} (hσ : σ[14]? = some (some (.ref F))) (ha : ∀ R : List V → Hp → Prop, R ys H → ta σ H R) (hl : ys.length ≤ 3) (hF : H F = some (.dK kvs)) (kl : kvs.length ≤ 20)
    (ek : ∀ v, putK kvs (.inr k) v = kvs' ++ [(.inr k, v)]) (q : ∀ p H', Kp F H H' → H' F = some (.dK (kvs' ++ [(.inr k, .ref p)])) → H' p = some (.tup ys) → p ≠ F → r D σ H') : tSeq (sDPut (tVar 14) (tC (.str k)) (tTup ta)) r D σ H := by
  refine ha _ ⟨Nat.le_of_lt (small1000 (by omega)), fun p hp => ⟨_, hσ, F, _, rfl, DPut.k (k := .inr k) ((same_new hp) _ _ hF) (Nat.lt_of_le_of_lt kl (by decide)), ?_⟩⟩
  have nF : p ≠ F := fun e => by rw [e, hF] at hp; cases hp
  have s1 := same_new (o := .tup ys) hp
  have e1 : (upd H p (.tup ys)) p = some (.tup ys) := upd_same
  generalize upd H p (.tup ys) = H1 at s1 e1
  refine q p _ (fun b o n e => by rw [upd_ne n]; exact s1 _ _ e) (by rw [ek]; exact upd_same) (by rw [upd_ne nF]; exact e1) nF
def wayV : Option Str → V
  | none => .non
  | some w => .str w
theorem way_dp {K : PySem.W.Frag} {H : Hp} {w : Option Str} : Dp K H (wayV w) (wayD w) := by
  cases w with
  | none => exact .non
  | some w => exact .str w
theorem list_nil {l : List PyData} : PyData.eqv (.list l) (.list []) = l.isEmpty := by
  cases l with
  | nil => simp [PyData.eqv, PyData.eqvAll]
  | cons => simp [PyData.eqv, PyData.eqvAll]
theorem pairs_dp {K : PySem.W.Frag} {H : Hp} : ∀ {ys : List V}, (∀ y ∈ ys, PairV H y) → DpAll K H ys (ys.map fun y => rowD (kOf H y))
  | [], _ => .nil
  | y :: ys, h => by
    obtain ⟨t, e, ht⟩ := h y List.mem_cons_self
    refine .cons ?_ (pairs_dp fun z hz => h z (List.mem_cons_of_mem _ hz))
    have e' : y = .ref t := e
    rw [e'] at ht ⊢
    exact .tup (SqT.of ht) (.cons (.int _) (.cons (.int _) .nil))
def KS18 : List Str := ["write", "write", "write", "write", "write", "trim", "trim", "make", "make", "snap", "drop", "remove", "register", "reserve", "release", "leave", "preempt", "mark"]
abbrev K12 : List V := [V.str "write", V.str "write", V.str "write", V.str "write", V.str "write", V.str "trim", V.str "trim", V.str "make", V.str "make", V.str "snap", V.str "drop", V.str "remove"]
abbrev K6 : List V := [V.str "register", V.str "reserve", V.str "release", V.str "leave", V.str "preempt", V.str "mark"]
def KS9 : List Str := ["write", "trim", "make", "snap", "remove", "register", "release", "leave", "mark"]
theorem ks_in : ∀ k ∈ KS18, k ≠ "reserve" → k ≠ "preempt" → k ≠ "drop" → k ∈ KS9 := by decide +kernel
def StepOk (st : Sta) (b : Bd) : Prop := ∀ n, nsM b = some n → (if isMk b = true then lookI st.sp n = none else ∃ s, lookI st.sp n = some s)
theorem stepOk_in {st : Sta} {b : Bd} {n : Int} (h : nsM b = some n) (m : isMk b = false) (e : ∃ s, lookI st.sp n = some s) : StepOk st b := fun n' h' => by
  rw [h] at h'; cases h'
  rw [m, if_neg Bool.false_ne_true]; exact e
theorem stepOk_mark {st : Sta} {d : PyData} : StepOk st (.mark d) := fun n h => nomatch h
theorem sn_sp {st : Sta} (S : SnIn st) {q : (Int × Int) × Cells} (h : q ∈ st.sn) : ∃ s, lookI st.sp q.1.1 = some s := by
  cases e : lookI st.sp q.1.1 with
  | some s => exact ⟨s, rfl⟩
  | none =>
    exfalso
    have hn := S q.1.1 q.1.2 e
    unfold lookI at hn
    rw [Option.map_eq_none_iff, List.find?_eq_none] at hn
    exact hn q h (by simp)
def IsStepK (K : PySem.W.Frag) (st : Sta) (M : Int) (H : Hp) (v : V) : Prop := ∃ stp h b, v = .ref stp ∧ 0 ≤ h ∧ h < 4 ∧ BdN M b ∧ (∀ d, b = .mark d → d = told4 st h) ∧ StepOk st b ∧ ∀ o, StepAt K H stp ⟨o, h, sessN st h b, cntN st h b, b⟩
def KindOk (st : Sta) (n : Int) (k : Str) : Prop := (lookI st.sp n = none ∧ (k = "make" ∨ k = "mark")) ∨ ((∃ s, lookI st.sp n = some s) ∧ k ≠ "make")
def spLStep (K : PySem.W.Frag) : Sp := fun vs H Q _ => ∃ (c : Int) (w : Addr) (st : Sta) (m : Int), vs = [.int c, .ref w, .int m] ∧ StAt K H w st ∧ StG 900 st ∧ NumS 1000 st ∧ SnIn st ∧ (∀ h, tupO (told4 st h) = true) ∧ 0 < m ∧ m ≤ 100 ∧ ∀ v H', Same H H' → IsStepK K st 1000 H' v → Q v H'
def slotsL (c : Int) (w l kl : Addr) (m : Int) (k : Str) (d4 n pl : Int) (xs : List (Option V)) : L2.St := [some (.int c), some (.ref w), some (.int m), some (.ref l), some (.ref kl), some (.str k), some (.int d4), some (.int n), some (.int pl)] ++ xs
section
variable {P : Program} {wd : World} {K : PySem.W.Frag} {mg : Str → Option Value} {base : Heap} {f fD fN fS fT : Addr} {fd fdD fdN fdS fdT : FuncData}
theorem scLStep : FnScope ["cell", "world", "many", "digits", "kinds", "kind", "host", "namespace", "place", "fence", "hosts", "way", "snaps", "held", "fields", "row", "name"] ["cell", "world", "many"] (defScope sLStep) := ⟨rfl, rfl, rfl, by decide +kernel, rfl, by decide +kernel, by decide +kernel⟩
theorem ok_lstep (F : Fun K "_law_step" "_law_step" sLStep f fd) (B : BK mg) (GD : Def P wd K mg base CX0 "_law_digits" 1 ["cell","bases"] (spDig K) fD fdD) (GN : Def P wd K mg base CX0 "_law_named" 1 ["world","kind","host","fields"] (spLNamed K) fN fdN)
    (GS : Def P wd K mg base CX0 "_law_sure" 1 ["kind","world","host","namespace","place"] (spLSure K) fS fdS) (GT : Def P wd K mg base CX0 "_law_told" 1 ["world","host"] (spLTold K) fT fdT) : FnOk P wd K mg base CX0 2 f fd ["cell","world","many"] (spLStep K) := by
  refine F.ok scLStep (fun vs H Q E h => ?_) (fun cdv A outer s H vs Q E hr h => ?_)
  · obtain ⟨c, w, st, m, rfl, _⟩ := h
    rfl
  · obtain ⟨c, w, st, m, rfl, SA, G, NS, SI, TO, m1, m2, q⟩ := h
    have hr1 : Room 1 _ := hr.mono (by decide)
    refine ⟨_, (pss_cons (ps_set (i := 3) scLStep.nd rfl (Or.inl rfl) (pe_call GD.ok hr1 (by rfl) GD.mg GD.kp GD.bd .nil pass0 (pa_cons (pv 0) (pa_cons (pe_lst (pa_cons pe_int (pa_cons (pv 2) (pa_cons pe_int (pa_cons pe_int (pa_cons pe_int (pa_cons pe_int (pa_cons pe_int (pa_cons pe_int pa_nil))))))))) pa_nil))))
      (pss_cons (ps_set (i := 4) scLStep.nd rfl (Or.inl rfl) (pe_lst (pa_cons pe_str (pa_cons pe_str (pa_cons pe_str (pa_cons pe_str (pa_cons pe_str (pa_cons pe_str (pa_cons pe_str (pa_cons pe_str (pa_cons pe_str (pa_cons pe_str (pa_cons pe_str (pa_cons pe_str pa_nil))))))))))))))
      (pss_cons (ps_set (i := 5) scLStep.nd rfl (Or.inl rfl) (pe_ix ix_list (pe_op op_cat (pv 4) (pe_lst (pa_cons pe_str (pa_cons pe_str (pa_cons pe_str (pa_cons pe_str (pa_cons pe_str (pa_cons pe_str pa_nil)))))))) (pe_ix ix_list (pv 3) pe_int (fun _ _ => rfl)) (fun _ _ => rfl)))
      (pss_cons (ps_set (i := 6) scLStep.nd rfl (Or.inl rfl) (pe_ix ix_list (pv 3) pe_int (fun _ _ => rfl)))
      (pss_cons (ps_set (i := 7) scLStep.nd rfl (Or.inr rfl) (pe_op op_add pe_int (pe_ix ix_list (pv 3) pe_int (fun _ _ => rfl))))
      (pss_cons (ps_set (i := 8) scLStep.nd rfl (Or.inl rfl) (pe_ix ix_list (pv 3) pe_int (fun _ _ => rfl)))
      (Evl.pss_cut (ps_if (pt_cmpR op_lt (pe_ix ix_list (pv 3) pe_int (fun _ _ => rfl)) pe_int (nomark _))
      (pss_one (ps_set (i := 8) scLStep.nd rfl (Or.inl rfl) (pe_op op_add pe_int (pe_ix ix_list (pv 3) pe_int (fun _ _ => rfl))))) pss_nil)
      (Evl.pss_cut (ps_set (i := 9) scLStep.nd rfl (Or.inl rfl) (pe_ix ix_tup (pe_dget2 (hu_of hr) (pe_dget (hu_of hr) (pv 1) pe_str (fun _ _ => rfl)) (pv 7) (pe_tup (pa_cons pe_int (pa_cons pe_dnewK (pa_cons (pe_tup (pa_cons (pe_tup pa_nil) (pa_cons pe_non pa_nil))) pa_nil)))) ⟨rfl, rfl, rfl, rfl⟩) pe_int (fun _ _ => rfl)))
      (Evl.pss_cut (ps_setLc (i := 10) (own := [("row", 15)]) (g := gName 15) (tt := tYes) (te := tOp (rIxT K) (tVar 15) (tC (.int 0))) (by rfl) scLStep.nd rfl rfl (sw_true rfl rfl rfl (by decide +kernel)) (pi_tup (pe_ix ix_tup (pv 9) pe_int (fun _ _ => rfl))) (blkOk_by (own := [("row", 15)]) (N := ["cell", "world", "many", "digits", "kinds", "kind", "host", "namespace", "place", "fence", "hosts", "way", "snaps", "held", "fields", "row", "name"]) (sc := defScope sLStep) (by decide +kernel)) (fun _ _ _ _ _ => pg_name (i := 15) scLStep.nd rfl (Or.inl rfl)) (fun _ _ _ _ _ => pts_nil) (fun _ _ _ _ _ => by exact (pe_ix ix_tup (pv 15) pe_int (fun _ _ => rfl))))
      (Evl.pss_cut (ps_if (PW.pt (pw_and (pt_cmpR op_eq (pv 5) pe_str (nomark _)) (pw_and (pt_cmpR op_in_seq (pe_ix ix_list (pv 3) pe_int (fun _ _ => rfl)) (pv 10) (by rfl)) (pw_and (pt_cmpR op_ne (pe_ix ix_list (pv 3) pe_int (fun _ _ => rfl)) (pv 6) (nomark _)) (pw_and1 (pt_cmpR op_in_seq (pv 6) (pv 10) (by rfl)))))))
      (pss_cons (ps_set (i := 11) scLStep.nd rfl (Or.inl rfl) pe_non)
      (Evl.pss_cut (ps_if (PW.pt (pw_and (pt_cmpR op_notN (pe_ix ix_tup (pv 9) pe_int (fun _ _ => rfl)) pe_non (nomark _)) (pw_and1 (pt_cmpR op_eq (pe_ix ix_tup (pe_ix ix_tup (pv 9) pe_int (fun _ _ => rfl)) pe_int (fun _ _ => rfl)) (pe_ix ix_list (pv 3) pe_int (fun _ _ => rfl)) (nomark _)))))
      (pss_one (ps_set (i := 11) scLStep.nd rfl (Or.inl rfl) (pe_ix ix_tup (pe_ix ix_tup (pv 9) pe_int (fun _ _ => rfl)) pe_int (fun _ _ => rfl)))) pss_nil)
      (pss_one (ps_ret (pe_call GN.ok hr1 (by rfl) GN.mg GN.kp GN.bd .nil pass0 (pa_cons (pv 1) (pa_cons pe_str (pa_cons (pv 6) (pa_cons (pe_tup (pa_cons (pv 7) (pa_cons (pe_ix ix_list (pv 3) pe_int (fun _ _ => rfl)) (pa_cons (pv 11) pa_nil)))) pa_nil))))))))) pss_nil)
      (Evl.pss_cut (ps_if (PW.pt (pw_and (pt_cmpR op_eq (pv 5) pe_str (nomark _)) (pw_and (pt_cmpR op_in_seq (pv 6) (pv 10) (by rfl)) (pw_and1 (pt_cmpR op_isN (pe_ix ix_tup (pv 9) pe_int (fun _ _ => rfl)) pe_non (nomark _))))))
      (pss_one (ps_ret (pe_call GN.ok hr1 (by rfl) GN.mg GN.kp GN.bd .nil pass0 (pa_cons (pv 1) (pa_cons pe_str (pa_cons (pv 6) (pa_cons (pe_tup (pa_cons (pv 7) (pa_cons (pe_ix ix_list (pe_lst (pa_cons pe_str (pa_cons pe_str pa_nil))) (pe_op op_mod (pe_ix ix_list (pv 3) pe_int (fun _ _ => rfl)) pe_int) (fun _ _ => rfl)) pa_nil))) pa_nil))))))) pss_nil)
      (Evl.pss_cut (ps_set (i := 12) scLStep.nd rfl (Or.inl rfl) (pe_callB cr_sortedPO (by rfl) B.sorted (by decide +kernel) (pa_cons (pe_lock (pe_lc (own := [("name", 16)]) (g := gName 16) (tt := tTest (tOp rEq (tOp (rIxT K) (tVar 16) (tC (.int 0))) (tVar 7))) (te := tVar 16) (by rfl) scLStep.nd (pi_keys (pe_dget (hu_of hr) (pv 1) pe_str (fun _ _ => rfl))) (blkOk_by (own := [("name", 16)]) (N := ["cell", "world", "many", "digits", "kinds", "kind", "host", "namespace", "place", "fence", "hosts", "way", "snaps", "held", "fields", "row", "name"]) (sc := defScope sLStep) (by decide +kernel)) (fun _ _ _ _ _ => pg_name (i := 16) scLStep.nd rfl (Or.inl rfl)) (fun _ _ _ _ _ => pts_one (by exact (pt_cmpR op_eq (pe_ix ix_tup (pv 16) pe_int (fun _ _ => rfl)) (pv 7) (nomark _)))) (fun _ _ _ _ _ => by exact (pv 16)))) pa_nil)))
      (Evl.pss_cut (ps_if (PW.pt (pw_and (pt_cmpR op_eq (pv 5) pe_str (nomark _)) (pw_and1 (pt_cmpR (op_neD (u64_of hr)) (pv 12) (pe_lst pa_nil) (nomark _)))))
      (pss_one (ps_ret (pe_call GN.ok hr1 (by rfl) GN.mg GN.kp GN.bd .nil pass0 (pa_cons (pv 1) (pa_cons pe_str (pa_cons (pv 6) (pa_cons (pe_ix ix_list (pv 12) (pe_op op_mod (pe_ix ix_list (pv 3) pe_int (fun _ _ => rfl)) (pe_callB call_len_seq (by rfl) B.len PySem.boot_len (pa_cons (pv 12) pa_nil))) (fun _ _ => rfl)) pa_nil))))))) pss_nil)
      (Evl.pss_cut (ps_if (ptcut (PW.pt (pw_or (pt_cmpR op_eq (pv 5) pe_str (nomark _)) (pw_or1 (pt_not (pt_val (pe_call GS.ok hr1 (by rfl) GS.mg GS.kp GS.bd .nil pass0 (pa_cons (pv 5) (pa_cons (pv 1) (pa_cons (pv 6) (pa_cons (pv 7) (pa_cons (pv 8) pa_nil))))))))))))
      (pss_one (ps_set (i := 5) scLStep.nd rfl (Or.inl rfl) (pe_ix ix_list (pe_lst (pa_cons pe_str (pa_cons pe_str pa_nil))) (pe_callTy call_int1 (by rfl) B.int (by decide +kernel) (pa_cons (pe_cmp (pc_din (hu_of hr) (pv 7) (pe_dget (hu_of hr) (pv 1) pe_str (fun _ _ => rfl))) rfl) pa_nil)) (fun _ _ => rfl)))) pss_nil)
      (Evl.pss_cut (ps_set (i := 13) scLStep.nd rfl (Or.inl rfl) (pe_and (pe_cmpR op_notN (pe_ix ix_tup (pv 9) pe_int (fun _ _ => rfl)) pe_non (nomark _)) (pe_one (pe_cmpR op_eq (pe_ix ix_tup (pe_ix ix_tup (pv 9) pe_int (fun _ _ => rfl)) pe_int (fun _ _ => rfl)) (pv 6) (nomark _)))))
      (pss_cons (ps_set (i := 14) scLStep.nd rfl (Or.inl rfl) (pe_disp (pps_cons pe_str (pe_tup (pa_cons (pv 7) (pa_cons (pv 8) (pa_cons (pe_op op_sub (pe_ix ix_list (pv 3) pe_int (fun _ _ => rfl)) pe_int) pa_nil)))) (pps_cons pe_str (pe_tup (pa_cons (pv 7) (pa_cons (pv 8) pa_nil))) (pps_cons pe_str (pe_tup (pa_cons (pv 7) (pa_cons pe_int pa_nil))) pps_nil))) rfl rfl (by decide) (by decide)))
      (pss_cons (ps_dput (hu_of hr) (pv 14) pe_str (pe_tup (pa_cons (pv 7) pa_nil)) rfl)
      (pss_cons (ps_dput (hu_of hr) (pv 14) pe_str (pe_tup (pa_cons (pv 7) pa_nil)) rfl)
      (pss_cons (ps_dput (hu_of hr) (pv 14) pe_str (pe_tup (pa_cons (pv 7) pa_nil)) rfl)
      (pss_cons (ps_dput (hu_of hr) (pv 14) pe_str (pe_tup (pa_cons (pv 7) pa_nil)) rfl)
      (pss_cons (ps_dput (hu_of hr) (pv 14) pe_str (pe_tup (pa_cons (pv 7) (pa_cons (pv 13) pa_nil))) rfl)
      (pss_cons (ps_dput (hu_of hr) (pv 14) pe_str (pe_tup (pa_cons (pe_call GT.ok hr1 (by rfl) GT.mg GT.kp GT.bd .nil pass0 (pa_cons (pv 1) (pa_cons (pv 6) pa_nil))) pa_nil)) rfl)
      (pss_one (ps_ret (pe_call GN.ok hr1 (by rfl) GN.mg GN.kp GN.bd .nil pass0 (pa_cons (pv 1) (pa_cons (pv 5) (pa_cons (pv 6) (pa_cons (pe_dget (hu_of hr) (pv 14) (pv 5) (fun _ _ => rfl)) pa_nil))))))))))))))))))))))))))))), ?_⟩
    refine ⟨_, rfl, _, rfl, by show 8 ≤ sizeLine; decide, fun l0 hl0 => ?_⟩
    have s1 := same_new (o := .lst [V.int 18, V.int m, V.int 6, V.int 9, V.int 4, V.int 4, V.int 3, V.int 12]) hl0
    refine ⟨c, l0, [18, m, 6, 9, 4, 4, 3, 12], rfl, SqL.of upd_same, by simp, ?_, fun l ds H2 _ s2 hl len rng => ?_⟩
    · intro x hx
      simp only [List.mem_cons, List.not_mem_nil, or_false] at hx
      omega
    have s12 := s1.trans s2
    obtain ⟨d0, d1, d2, d3, d4, d5, d6, d7, rfl⟩ : ∃ d0 d1 d2 d3 d4 d5 d6 d7, ds = [d0, d1, d2, d3, d4, d5, d6, d7] := by
      match ds, len with
      | [a, b, c, d, e, f, g, h], _ => exact ⟨a, b, c, d, e, f, g, h, rfl⟩
    have hs : SqL K H2 l [.int d0, .int d1, .int d2, .int d3, .int d4, .int d5, .int d6, .int d7] := SqL.of hl
    have r0 := rng 0 d0 18 rfl rfl
    have r1 := rng 1 d1 m rfl rfl
    have r2 := rng 2 d2 6 rfl rfl
    have r3 := rng 3 d3 9 rfl rfl
    have r4 := rng 4 d4 4 rfl rfl
    have r5 := rng 5 d5 4 rfl rfl
    have r6 := rng 6 d6 3 rfl rfl
    have SA2 := SA.same s12
    clear rng s1 s2 hl0 hl
    refine ⟨by show 12 ≤ sizeLine; decide, fun kl hkl => ?_⟩
    have s3 := same_new (o := .lst K12) hkl
    have hk3 : (upd H2 kl (.lst K12)) kl = some (.lst K12) := upd_same
    generalize upd H2 kl (.lst K12) = H3 at s3 hk3
    refine ⟨_, rfl, by show 6 ≤ sizeLine; decide, fun b2 hb2 => ⟨kl, b2, _, _, rfl, rfl, (same_new hb2) _ _ hk3, upd_same, by show 18 ≤ sizeLine; decide, fun p hp => ?_⟩⟩
    have s4 := s3.trans ((same_new (o := .lst K6) hb2).trans (same_new (o := .lst (K12 ++ K6)) hp))
    have hp4 : (upd (upd H3 b2 (.lst K6)) p (.lst (K12 ++ K6))) p = some (.lst (K12 ++ K6)) := upd_same
    generalize upd (upd H3 b2 (.lst K6)) p (.lst (K12 ++ K6)) = H4 at s4 hp4
    obtain ⟨i0, rfl⟩ : ∃ i : Nat, d0 = i := ⟨d0.toNat, by omega⟩
    obtain ⟨k, hk⟩ : ∃ k, KS18[i0]? = some k := ⟨_, List.getElem?_eq_getElem (show i0 < KS18.length by show i0 < 18; omega)⟩
    have km : k ∈ KS18 := List.mem_of_getElem? hk
    have hk' : (K12 ++ K6)[i0]? = some (V.str k) := by
      show (KS18.map V.str)[i0]? = _
      rw [List.getElem?_map, hk]; rfl
    have hs4 := s4.seq hs
    have SA4 := SA2.same s4
    have s04 := s12.trans s4
    refine ⟨_, rfl, l, _, _, _, rfl, rfl, hs4, atI_nat (j := 0) rfl, p, _, _, _, rfl, rfl, SqL.of hp4, atI_nat hk', ?_⟩
    clear hk' hp4 s4 hp hb2 hk3 s3 hkl s12 SA2
    refine ⟨_, rfl, l, _, _, _, rfl, rfl, hs4, atI_nat (j := 4) rfl, ?_⟩
    refine ⟨_, rfl, l, _, _, _, rfl, rfl, hs4, atI_nat (j := 1) rfl, _, _, rfl, rfl, ?_⟩
    refine ⟨_, rfl, l, _, _, _, rfl, rfl, hs4, atI_nat (j := 2) rfl, ?_⟩
    refine ⟨fun σ' G' => ∃ pl, Bn 1000 pl ∧ σ' = slotsL c w l kl m k d4 (1 + d1) pl [none, none, none, none, none, none, none, none] ∧ H4 = G', ?_, ?_⟩
    · refine ⟨_, rfl, l, _, _, _, rfl, rfl, hs4, atI_nat (j := 7) rfl, _, _, rfl, rfl, _, rfl, ?_⟩
      by_cases c0 : d7 < 2
      · refine chooseT (decide_eq_true c0) ?_
        exact ⟨_, rfl, l, _, _, _, rfl, rfl, hs4, atI_nat (j := 2) rfl, _, _, rfl, rfl, 58 + d2, by show ((58 + d2).natAbs : Int) ≤ 1000; omega, rfl, rfl⟩
      · refine chooseF (decide_eq_false c0) ?_
        exact ⟨d2, by show (d2.natAbs : Int) ≤ 1000; omega, rfl, rfl⟩
    rintro σ' G' ⟨pl, plb, rfl, rfl⟩
    obtain ⟨b1, b2, b3, ha, t1, t2, t3⟩ := id SA4
    obtain ⟨kvs1, hk1, pr1, nd1⟩ := id t1
    refine ⟨fun σ' G' => ∃ fv rg hd, σ' = slotsL c w l kl m k d4 (1 + d1) pl [some fv, none, none, none, none, none, none, none] ∧ Same H4 G' ∧ FenceAt K G' fv rg hd ∧ CsN 1000 rg ∧ HdN 1000 hd ∧ rg.length ≤ 900 ∧ (lookI st.sp (1 + d1) = none → rg = []), ?_, ?_⟩
    · refine ⟨_, rfl, w, .ref b1, rfl, .inl ⟨_, .inr "spaces", .inl ha, rfl, rfl⟩, b1, rfl, .inl ⟨kvs1, .inl hk1⟩, _, rfl, ?_⟩
      refine fun D0 hD0 => ⟨by show 0 ≤ sizeLine; decide, fun e0 he0 => ⟨by show 2 ≤ sizeLine; decide, fun e1 he1 => ⟨by show 3 ≤ sizeLine; decide, fun e2 he2 => ?_⟩⟩⟩
      have u1 := same_new (o := .dK []) hD0
      have u2 := same_new (o := .tup []) he0
      have u3 := same_new (o := .tup [V.ref e0, V.non]) he1
      have u4 := same_new (o := .tup [V.int 1, V.ref D0, V.ref e1]) he2
      have k0 := (u3.trans u4) _ _ (upd_same (H := upd H4 D0 (.dK [])) (a := e0) (o := .tup []))
      have k1 := u4 _ _ (upd_same (H := upd (upd H4 D0 (.dK [])) e0 (.tup [])) (a := e1) (o := .tup [V.ref e0, V.non]))
      have k2 : (upd (upd (upd (upd H4 D0 (.dK [])) e0 (.tup [])) e1 (.tup [V.ref e0, V.non])) e2 (.tup [V.int 1, V.ref D0, V.ref e1])) e2 = some (.tup [V.int 1, V.ref D0, V.ref e1]) := upd_same
      have u := u1.trans (u2.trans (u3.trans u4))
      generalize upd (upd (upd (upd H4 D0 (.dK [])) e0 (.tup [])) e1 (.tup [V.ref e0, V.non])) e2 (.tup [V.int 1, V.ref D0, V.ref e1]) = H5 at u k0 k1 k2
      rcases pr_look (R := SpcAt K H4) eI_inj (k := 1 + d1) pr1 with ⟨l0', hz⟩ | ⟨sp, z, l0', hz, az⟩
      · refine ⟨none, .inl ⟨_, .inl (1 + d1), .inl (u _ _ hk1), rfl, hz.symm⟩, e2, _, _, _, rfl, rfl, SqT.of k2, atI_nat (j := 2) rfl, ?_⟩
        exact ⟨_, [], none, rfl, u, ⟨e1, e0, .non, rfl, SqT.of k1, ⟨[], SqT.of k0, .nil⟩, rfl⟩, (fun _ h => nomatch h), hd_none, Nat.zero_le _, fun _ => rfl⟩
      · obtain ⟨a, cc, fv, rfl, hp, hc, hf⟩ := az.same u
        have nsp := (NS.sp _ (look_mem l0')).2
        refine ⟨some (.ref a), .inl ⟨_, .inl (1 + d1), .inl (u _ _ hk1), rfl, hz.symm⟩, a, _, _, _, rfl, rfl, hp, atI_nat (j := 2) rfl, ?_⟩
        exact ⟨fv, sp.rg, sp.hd, rfl, u, hf, nsp.rg, nsp.hd, (G.rg _ (look_mem l0')).2, fun e => by rw [e] at l0'; cases l0'⟩
    rintro σ' H5 ⟨fv, rg, hd, rfl, s5, hf, rgn, hdn, rgl, rg0⟩
    obtain ⟨fa, fr, fhv, rfl, f1, f2, f4⟩ := id hf
    -- the hosts of the fence
    refine ⟨fun σ' G' => ∃ D, σ' = slotsL c w l kl m k d4 (1 + d1) pl [some (.ref fa), some (.ref D), none, none, none, none, none, none] ∧ Same H5 G' ∧ G' D = some (.lst (rg.map fun p => V.int p.1)), ?_, ?_⟩
    · refine ⟨_, rfl, fa, _, _, _, rfl, rfl, f1, atI_nat (j := 0) rfl, fr, rfl, ⟨_, f2.choose_spec.1⟩, fun D hD => ?_⟩
      refine lc_hosts f2 hD (by omega) (show 15 < 17 by decide) fun H' sm hDl => ?_
      exact ⟨D, rfl, sm, hDl⟩
    rintro σ' H6 ⟨D, rfl, s6, hD⟩
    have f1' := SqT_same s6 f1
    have f4' := f4.tk (TK.of s6)
    have hs6 := (s5.trans s6).seq hs4
    have SA6 := SA4.same (s5.trans s6)
    have s06 := s04.trans (s5.trans s6)
    have hN : (1 + d1).natAbs ≤ (1000 : Int) := by omega
    -- the place of the reservation
    have hold : ∀ (R : Prop), (∀ x y, hd = some (x, y) → (∃ t, fhv = .ref t ∧ SqT K H6 t [.int x, .str y]) → R) → (hd = none → fhv = .non → R) → R := fun R r1 r2 => by
      cases hd with
      | none => exact r2 rfl f4'
      | some p => obtain ⟨t, e, h1, _⟩ := f4'; exact r1 p.1 p.2 rfl ⟨t, e, h1⟩
    have here : ∀ i : Int, inV (.int i) (rg.map fun p => V.int p.1) = true → ∃ s, lookI st.sp (1 + d1) = some s := fun i hi => by
      cases e : lookI st.sp (1 + d1) with
      | some s => exact ⟨s, rfl⟩
      | none => rw [rg0 e] at hi; cases hi
    have fin : ∀ (b : Bd) (fl : Addr) (ys : List V) (H7 : Hp), StepOk st b → Same H6 H7 → SqT K H7 fl ys → DpAll K H7 ys (fldD b) → BdN 1000 b → (∀ d, b = .mark d → d = told4 st d4) → spLNamed K [.ref w, .str (kindS b), .int d4, .ref fl] H7 Q E0 := fun b fl ys H7 ok s7 e1 e2 e3 e4 =>
      ⟨w, fl, st, d4, b, ys, rfl, SA6.same s7, e1, e2, fun stp H' s' hst => q (.ref stp) H' (s06.trans (s7.trans s')) ⟨stp, d4, b, rfl, r4.1, r4.2, e3, e4, ok, hst⟩⟩
    refine ⟨fun σ' G' => σ' = slotsL c w l kl m k d4 (1 + d1) pl [some (.ref fa), some (.ref D), none, none, none, none, none, none] ∧ H6 = G', ?_, ?_⟩
    · refine ⟨_, rfl, rfl, _, rfl, ?_⟩
      by_cases ck : k = "preempt"
      · refine chooseT (decide_eq_true (by rw [ck])) ?_
        refine ⟨_, rfl, l, _, _, _, rfl, rfl, hs6, atI_nat (j := 5) rfl, _, rfl, D, _, rfl, .inl (SqL.of hD), rfl, ints_flat, _, rfl, chooseB (fun hin => ?_) fun _ => chooseF rfl ⟨rfl, rfl⟩⟩
        refine ⟨_, rfl, l, _, _, _, rfl, rfl, hs6, atI_nat (j := 5) rfl, _, rfl, rfl, _, rfl, chooseB (fun _ => ?_) fun _ => chooseF rfl ⟨rfl, rfl⟩⟩
        refine ⟨_, rfl, _, rfl, D, _, rfl, .inl (SqL.of hD), rfl, ints_flat, _, rfl, chooseB (fun _ => ?_) fun _ => ⟨rfl, rfl⟩⟩
        refine ⟨fun σ' G' => ∃ wy, σ' = slotsL c w l kl m k d4 (1 + d1) pl [some (.ref fa), some (.ref D), some (wayV wy), none, none, none, none, none] ∧ H6 = G' ∧ ∀ x, wy = some x → x ∈ (["write", "alone"] : List Str), ?_, ?_⟩
        · refine ⟨_, rfl, fa, _, _, _, rfl, rfl, f1', atI_nat (j := 1) rfl, rfl, _, rfl, ?_⟩
          refine hold _ (fun x y e ⟨t, et, ht⟩ => ?_) fun e et => ?_
          · subst et
            refine chooseT rfl ?_
            refine ⟨_, rfl, fa, _, _, _, rfl, rfl, f1', atI_nat (j := 1) rfl, t, _, _, _, rfl, rfl, ht, atI_nat (j := 0) rfl, _, rfl, l, _, _, _, rfl, rfl, hs6, atI_nat (j := 5) rfl, rfl, _, rfl, chooseB (fun _ => ?_) fun _ => ⟨none, rfl, rfl, fun x e => nomatch e⟩⟩
            exact ⟨_, rfl, fa, _, _, _, rfl, rfl, f1', atI_nat (j := 1) rfl, t, _, _, _, rfl, rfl, ht, atI_nat (j := 1) rfl, some y, rfl, rfl, fun z e' => by cases e'; exact (hdn x y e).2⟩
          · subst et
            exact chooseF rfl (chooseF rfl ⟨none, rfl, rfl, fun x e => nomatch e⟩)
        rintro σ' _ ⟨wy, rfl, rfl, hw⟩
        refine ⟨_, rfl, _, rfl, _, rfl, _, rfl, l, _, _, _, rfl, rfl, hs6, atI_nat (j := 5) rfl, _, rfl, by show 3 ≤ sizeLine; decide, fun p hp => ?_⟩
        exact fin (.preempt (1 + d1) d5 wy) p _ _ (stepOk_in rfl rfl (here _ hin)) (same_new hp) (SqT.of upd_same) (.cons (.int _) (.cons (.int _) (.cons way_dp .nil))) ⟨hN, by omega, hw⟩ fun d e => nomatch e
      · exact chooseF (str_eqF ck) (chooseF rfl ⟨rfl, rfl⟩)
    rintro σ' _ ⟨rfl, rfl⟩
    refine ⟨fun σ' G' => σ' = slotsL c w l kl m k d4 (1 + d1) pl [some (.ref fa), some (.ref D), none, none, none, none, none, none] ∧ H6 = G', ?_, ?_⟩
    · refine ⟨_, rfl, rfl, _, rfl, ?_⟩
      by_cases ck : k = "reserve"
      · refine chooseT (decide_eq_true (by rw [ck])) ?_
        refine ⟨_, rfl, _, rfl, D, _, rfl, .inl (SqL.of hD), rfl, ints_flat, _, rfl, chooseB (fun hin => ?_) fun _ => chooseF rfl ⟨rfl, rfl⟩⟩
        refine ⟨_, rfl, fa, _, _, _, rfl, rfl, f1', atI_nat (j := 1) rfl, rfl, _, rfl, chooseB (fun _ => ?_) fun _ => ⟨rfl, rfl⟩⟩
        refine ⟨_, rfl, _, rfl, _, rfl, by show 2 ≤ sizeLine; decide, fun q2 hq2 => ?_⟩
        have v1 := same_new (o := .lst [V.str "write", V.str "alone"]) hq2
        have v2 : (upd H6 q2 (.lst [V.str "write", V.str "alone"])) q2 = some (.lst [V.str "write", V.str "alone"]) := upd_same
        generalize upd H6 q2 (.lst [V.str "write", V.str "alone"]) = H7 at v1 v2
        obtain ⟨i, wd, ei, hwd, mwd⟩ : ∃ (i : Nat) (x : Str), d6 % 2 = (i : Int) ∧ [V.str "write", V.str "alone"][i]? = some (V.str x) ∧ x ∈ (["write", "alone"] : List Str) := by
          rcases (show d6 % 2 = 0 ∨ d6 % 2 = 1 by omega) with e | e
          · exact ⟨0, "write", e, rfl, by decide⟩
          · exact ⟨1, "alone", e, rfl, by decide⟩
        refine ⟨_, rfl, l, _, _, _, rfl, rfl, v1.seq hs6, atI_nat (j := 6) rfl, _, _, rfl, rfl, (show (0 : Int) < 2 by decide), q2, _, _, _, rfl, rfl, SqL.of v2, by rw [ei]; exact atI_nat hwd, by show 2 ≤ sizeLine; decide, fun p hp => ?_⟩
        exact fin (.reserve (1 + d1) wd) p _ _ (stepOk_in rfl rfl (here _ hin)) (v1.trans (same_new hp)) (SqT.of upd_same) (.cons (.int _) (.cons (.str _) .nil)) ⟨hN, mwd⟩ fun d e => nomatch e
      · exact chooseF (str_eqF ck) (chooseF rfl ⟨rfl, rfl⟩)
    rintro σ' _ ⟨rfl, rfl⟩
    -- the snapshots of the space
    refine ⟨fun σ' G' => ∃ S ys, σ' = slotsL c w l kl m k d4 (1 + d1) pl [some (.ref fa), some (.ref D), none, some (.ref S), none, none, none, none] ∧ Same H6 G' ∧ G' S = some (.lst ys) ∧ ys.length ≤ 1000 ∧ ∀ y ∈ ys, PairV G' y ∧ Bn 1000 (kOf G' y).1 ∧ Bn 1000 (kOf G' y).2 ∧ ∃ s, lookI st.sp (kOf G' y).1 = some s, ?_, ?_⟩
    · obtain ⟨c1, c2, c3, ca, t1', ⟨kvs2, hk2, pr2, nd2⟩, t3'⟩ := id SA6
      refine keepK_te (kdT K) (d := c2) (kvs := kvs2) (fun k => decide (k.head? = some (.inl (1 + d1)))) (show 16 < 17 by decide) (fun H1 R e r => ?_) hk2 (by rw [Paired.length pr2]; exact Nat.le_trans G.sm.sn (by decide)) (fun x kk H' Q' hkk hat _ k' => ?_) fun D2 xs H' s7 hD2 pr => ?_
      · exact ⟨_, rfl, w, .ref c2, rfl, .inl ⟨_, .inr "snaps", .inl (e _ _ (fun z => by rw [z, hk2] at ca; cases ca) ca), rfl, rfl⟩, r⟩
      · obtain ⟨b, rfl, hb⟩ := hat
        obtain ⟨qq, hq, rfl⟩ : ∃ q : (Int × Int) × Cells, q ∈ st.sn ∧ kk = eP q.1 := by
          rw [pr_keys (R := SnpAt K H6) pr2] at hkk
          obtain ⟨q, h1, h2⟩ := List.mem_map.mp hkk
          exact ⟨q, h1, h2.symm⟩
        refine ⟨_, rfl, b, _, _, _, rfl, rfl, SqT.of hb, atI_nat (j := 0) rfl, _, rfl, rfl, _, rfl, ?_⟩
        have e : decide (V.int qq.1.1 = V.int (1 + d1)) = decide ((eP qq.1).head? = some (.inl (1 + d1))) := by
          rw [dec_int]
          by_cases z : qq.1.1 = 1 + d1
          · simp [z, eP]
          · simp [z, eP]
        exact e ▸ k'
      · have px : ∀ x ∈ xs, PairV H' x ∧ Bn 1000 (kOf H' x).1 ∧ Bn 1000 (kOf H' x).2 ∧ ∃ s, lookI st.sp (kOf H' x).1 = some s := fun x hx => by
          obtain ⟨i, hi⟩ := List.mem_iff_getElem?.mp hx
          obtain ⟨kv, hkv, b, rfl, hb⟩ := paired_at pr hi
          have hm : kv ∈ kvs2 := (List.mem_filter.mp (List.mem_of_getElem? hkv)).1
          obtain ⟨j, hj⟩ := List.mem_iff_getElem?.mp hm
          obtain ⟨q, hq, e1, _⟩ := paired_at pr2 hj
          have hb' : H' b = some (.tup [.int q.1.1, .int q.1.2]) := by rw [e1] at hb; exact hb
          have ek := kOf_at hb'
          have nq := NS.sn q (List.mem_of_getElem? hq)
          refine ⟨⟨b, rfl, by rw [ek]; exact hb'⟩, by rw [ek]; exact nq.1, by rw [ek]; exact nq.2.1, by rw [ek]; exact sn_sp SI (List.mem_of_getElem? hq)⟩
        have lx : xs.length ≤ 1000 := by
          rw [Paired.length pr]
          refine Nat.le_trans (List.length_filter_le _ _) ?_
          rw [Paired.length pr2]; exact Nat.le_trans G.sm.sn (by decide)
        refine ⟨D2, xs, kOf H', rfl, SqL.of hD2, fun x hx => (px x hx).1, fun ys S so stb hS => ?_⟩
        have s8 := same_new (o := .lst ys) hS
        refine ⟨S, ys, rfl, s7.trans s8, upd_same, by rw [stb.perm.length_eq]; exact lx, fun y hy => ?_⟩
        have a := px y (stb.perm.mem_iff.mp hy)
        have b := a.1.tk (TK.of s8)
        refine ⟨b.1, ?_, ?_, ?_⟩
        · rw [b.2]; exact a.2.1
        · rw [b.2]; exact a.2.2.1
        · rw [b.2]; exact a.2.2.2
    rintro σ' H7 ⟨S, ys, rfl, s7, hS, lS, pS⟩
    have hs7 := s7.seq hs6
    have SA7 := SA6.same s7
    refine ⟨fun σ' G' => σ' = slotsL c w l kl m k d4 (1 + d1) pl [some (.ref fa), some (.ref D), none, some (.ref S), none, none, none, none] ∧ Same H7 G', ?_, ?_⟩
    · refine ⟨_, rfl, rfl, _, rfl, ?_⟩
      by_cases ck : k = "drop"
      · refine chooseT (decide_eq_true (by rw [ck])) ?_
        have pv := fun y hy => (pS y hy).1
        refine ⟨_, rfl, by show 0 ≤ sizeLine; decide, fun z hz => ⟨_, _, .lst (SqL.of ((same_new hz) _ _ hS)) (pairs_dp fun y hy => ((pv y hy).tk (TK.of (same_new hz))).1), .lst (SqL.of upd_same) .nil, shaped_list ?_ ?_, shaped_list rfl (by decide), _, rfl, ?_⟩⟩
        · have := (rows_lay (ys.map (kOf (upd H7 z (.lst []))))).1
          rw [List.map_map] at this; exact this
        · have := (rows_lay (ys.map (kOf (upd H7 z (.lst []))))).2
          rw [List.map_map] at this; exact Nat.le_trans this (by decide)
        have s8 := same_new (o := .lst []) hz
        generalize upd H7 z (.lst []) = H8 at s8
        rw [list_nil]
        cases ys with
        | nil => exact chooseF rfl ⟨rfl, s8⟩
        | cons y0 yr =>
          refine chooseT rfl ?_
          have hS8 := s8 _ _ hS
          have l0' : (0 : Int) < ((y0 :: yr).length : Nat) := by rw [List.length_cons]; omega
          obtain ⟨i, ei, il⟩ : ∃ i : Nat, d3 % ((y0 :: yr).length : Nat) = (i : Int) ∧ i < (y0 :: yr).length := by
            have a := Int.emod_nonneg d3 (show (((y0 :: yr).length : Nat) : Int) ≠ 0 by omega)
            have b := Int.emod_lt_of_pos d3 l0'
            exact ⟨(d3 % ((y0 :: yr).length : Nat)).toNat, by omega, by omega⟩
          have hy := List.getElem?_eq_getElem il
          have py := pS _ (List.mem_of_getElem? hy)
          generalize (y0 :: yr)[i] = y at hy py
          obtain ⟨t, et, ht⟩ := py.1
          have pn := py.2
          have et' : y = .ref t := et
          subst et'
          refine ⟨_, rfl, _, rfl, _, rfl, _, rfl, l, _, _, _, rfl, rfl, s8.seq hs7, atI_nat (j := 3) rfl, _, rfl, S, _, rfl, .inl (SqL.of hS8), _, _, rfl, rfl, l0', S, _, _, _, rfl, rfl, SqL.of hS8, by rw [ei]; exact atI_nat hy, ?_⟩
          exact fin (.drop (kOf H7 (.ref t)).1 (kOf H7 (.ref t)).2) t _ _ (stepOk_in rfl rfl pn.2.2) (s7.trans s8) (SqT.of (s8 _ _ ht)) (.cons (.int _) (.cons (.int _) .nil)) ⟨pn.1, pn.2.1⟩ fun d e => nomatch e
      · exact chooseF (str_eqF ck) (chooseF rfl ⟨rfl, Same.refl _⟩)
    rintro σ' H8 ⟨rfl, s8⟩
    have hs8 := s8.seq hs7
    have SA8 := SA7.same s8
    have s68 := s7.trans s8
    -- a kind that may be
    refine ⟨fun σ' G' => ∃ k', k' ∈ KS9 ∧ KindOk st (1 + d1) k' ∧ σ' = slotsL c w l kl m k' d4 (1 + d1) pl [some (.ref fa), some (.ref D), none, some (.ref S), none, none, none, none] ∧ Same H8 G', ?_, ?_⟩
    · refine ⟨fun b G' => Same H8 G' ∧ (b = false → k ∈ KS9 ∧ KindOk st (1 + d1) k), ?_, ?_⟩
      · refine ⟨_, rfl, rfl, _, rfl, ?_⟩
        by_cases ck : k = "drop"
        · exact chooseT (decide_eq_true (by rw [ck])) ⟨Same.refl _, fun e => nomatch e⟩
        · refine chooseF (str_eqF ck) ?_
          refine ⟨_, rfl, _, rfl, _, rfl, _, rfl, _, rfl, k, w, st, d4, 1 + d1, pl, rfl, SA8, G, fun b H' s' hb => ⟨_, rfl, s', fun e => ?_⟩⟩
          have hb' := hb (by cases b with | true => rfl | false => cases e)
          rcases hb' with ⟨l0, hk2⟩ | ⟨ex, n1, n2, n3⟩
          · refine ⟨ks_in k km (fun e => ?_) (fun e => ?_) ck, .inl ⟨l0, hk2⟩⟩ <;> (subst e; rcases hk2 with e | e <;> exact absurd e (by decide +kernel))
          · exact ⟨ks_in k km n2 n3 ck, .inr ⟨ex, n1⟩⟩
      · rintro b H9 ⟨s9, hb⟩
        refine chooseB (fun _ => ?_) fun e => ⟨k, (hb e).1, (hb e).2, rfl, s9⟩
        obtain ⟨c1, c2, c3, ca, ⟨kvs3, hk3, pr3, nd3⟩, _⟩ := SA8.same s9
        refine ⟨by show 2 ≤ sizeLine; decide, fun q3 hq3 => ?_⟩
        have v1 := same_new (o := .lst [V.str "make", V.str "write"]) hq3
        have v2 : (upd H9 q3 (.lst [V.str "make", V.str "write"])) q3 = some (.lst [V.str "make", V.str "write"]) := upd_same
        generalize upd H9 q3 (.lst [V.str "make", V.str "write"]) = H10 at v1 v2
        refine ⟨_, rfl, _, rfl, w, .ref c1, rfl, .inl ⟨_, .inr "spaces", .inl (v1 _ _ ca), rfl, rfl⟩, c1, _, rfl, .inl ⟨kvs3, .inl (1 + d1), .inl (v1 _ _ hk3), rfl, rfl⟩, .inr ⟨_, rfl, ?_⟩⟩
        have vk : valV kvs3 (eI (1 + d1)) = valV kvs3 (.inl (1 + d1)) := rfl
        rcases pr_look (R := SpcAt K _) eI_inj (k := 1 + d1) pr3 with ⟨l0, hz⟩ | ⟨sp, z, l0, hz, _⟩
        · rw [← vk, hz]
          exact ⟨q3, _, _, _, rfl, rfl, SqL.of v2, atI_nat (j := 0) rfl, "make", by decide, .inl ⟨l0, .inl rfl⟩, rfl, s9.trans v1⟩
        · rw [← vk, hz]
          exact ⟨q3, _, _, _, rfl, rfl, SqL.of v2, atI_nat (j := 1) rfl, "write", by decide, .inr ⟨⟨_, l0⟩, by decide +kernel⟩, rfl, s9.trans v1⟩
    rintro σ' H9 ⟨k', hk9, hok, rfl, s9⟩
    have s69 := s68.trans s9
    have hs9 := s9.seq hs8
    have f1s := SqT_same s69 f1'
    refine ⟨fun σ' G' => ∃ hb : Bool, σ' = slotsL c w l kl m k' d4 (1 + d1) pl [some (.ref fa), some (.ref D), none, some (.ref S), some (.bl hb), none, none, none] ∧ H9 = G', ?_, ?_⟩
    · refine ⟨_, rfl, fa, _, _, _, rfl, rfl, f1s, atI_nat (j := 1) rfl, rfl, _, rfl, ?_⟩
      refine hold _ (fun x y e ⟨t, et, ht⟩ => ?_) fun e et => ?_
      · subst et
        refine chooseT rfl ?_
        exact ⟨_, rfl, fa, _, _, _, rfl, rfl, f1s, atI_nat (j := 1) rfl, t, _, _, _, rfl, rfl, SqT_same s69 ht, atI_nat (j := 0) rfl, _, rfl, rfl, _, rfl, rfl⟩
      · subst et
        exact chooseF rfl ⟨_, rfl, rfl⟩
    rintro σ' _ ⟨hb, rfl, rfl⟩
    refine asg_e ?_
    intro F hF
    have w0 := same_new (o := .dK []) hF
    have x0 : (upd H9 F (.dK [])) F = some (.dK []) := upd_same
    generalize upd H9 F (.dK []) = G0 at w0 x0
    refine ⟨_, rfl, _, rfl, _, rfl, l, _, _, _, rfl, rfl, w0.seq hs9, atI_nat (j := 3) rfl, _, _, rfl, rfl, by show 3 ≤ sizeLine; decide, fun p1 hp1 => ?_⟩
    have w1 := same_new (o := .tup [V.int (1 + d1), V.int pl, V.int (d3 - 2)]) hp1
    have x1 : (upd G0 p1 (.tup [V.int (1 + d1), V.int pl, V.int (d3 - 2)])) p1 = some (.tup [V.int (1 + d1), V.int pl, V.int (d3 - 2)]) := upd_same
    generalize upd G0 p1 (.tup [V.int (1 + d1), V.int pl, V.int (d3 - 2)]) = G1 at w1 x1
    refine ⟨_, rfl, _, rfl, by show 2 ≤ sizeLine; decide, fun p2 hp2 => ?_⟩
    have w2 := same_new (o := .tup [V.int (1 + d1), V.int pl]) hp2
    have x2 : (upd G1 p2 (.tup [V.int (1 + d1), V.int pl])) p2 = some (.tup [V.int (1 + d1), V.int pl]) := upd_same
    generalize upd G1 p2 (.tup [V.int (1 + d1), V.int pl]) = G2 at w2 x2
    refine ⟨_, rfl, by show 2 ≤ sizeLine; decide, fun p3 hp3 => ?_⟩
    have w3 := same_new (o := .tup [V.int (1 + d1), V.int 64]) hp3
    have x3 : (upd G2 p3 (.tup [V.int (1 + d1), V.int 64])) p3 = some (.tup [V.int (1 + d1), V.int 64]) := upd_same
    generalize upd G2 p3 (.tup [V.int (1 + d1), V.int 64]) = G3 at w3 x3
    have y0 := w3 _ _ (w2 _ _ (w1 _ _ x0))
    refine ⟨y0, [(.inr "write", .ref p1), (.inr "trim", .ref p2), (.inr "make", .ref p3)], rfl, by show 3 ≤ 15; decide, ?_⟩
    have nn : ∀ {p : Addr} {xs : List V} {Gx : Hp}, Gx F = some (.dK []) → Gx p = some (.tup xs) → p ≠ F := fun a b e => by rw [e, a] at b; cases b
    have n1 := nn (w1 _ _ x0) x1
    have n2 := nn (w2 _ _ (w1 _ _ x0)) x2
    have n3 := nn y0 x3
    have t1' := w3 _ _ (w2 _ _ x1)
    have t2' := w3 _ _ x2
    have k0 : Kp F H9 G3 := Kp.of (w0.trans (w1.trans (w2.trans w3)))
    have em : mergeK [] [((.inr "write" : Key), V.ref p1), (.inr "trim", .ref p2), (.inr "make", .ref p3)] = [(.inr "write", .ref p1), (.inr "trim", .ref p2), (.inr "make", .ref p3)] := rfl
    rw [em]
    have kF : Kp F G3 (upd G3 F (.dK [(.inr "write", .ref p1), (.inr "trim", .ref p2), (.inr "make", .ref p3)])) := fun b o n e => by rw [upd_ne n]; exact e
    have eF : (upd G3 F (.dK [(.inr "write", .ref p1), (.inr "trim", .ref p2), (.inr "make", .ref p3)])) F = some (.dK [(.inr "write", .ref p1), (.inr "trim", .ref p2), (.inr "make", .ref p3)]) := upd_same
    generalize upd G3 F (.dK [(.inr "write", .ref p1), (.inr "trim", .ref p2), (.inr "make", .ref p3)]) = G4 at kF eF
    have z1 := kF _ _ n1 t1'
    have z2 := kF _ _ n2 t2'
    have z3 := kF _ _ n3 x3
    show tSeq _ _ _ _ _
    refine put_f (kvs' := [(.inr "write", .ref p1), (.inr "trim", .ref p2), (.inr "make", .ref p3)]) rfl (fun R r => ⟨_, rfl, r⟩) (by show 1 ≤ 3; decide) eF (by show 3 ≤ 20; decide) (fun _ => rfl) fun p4 G5 k5 e5 z4 n4 => ?_
    refine put_f (kvs' := [(.inr "write", .ref p1), (.inr "trim", .ref p2), (.inr "make", .ref p3), (.inr "snap", .ref p4)]) rfl (fun R r => ⟨_, rfl, r⟩) (by show 1 ≤ 3; decide) e5 (by show 4 ≤ 20; decide) (fun _ => rfl) fun p5 G6 k6 e6 z5 n5 => ?_
    refine put_f (kvs' := [(.inr "write", .ref p1), (.inr "trim", .ref p2), (.inr "make", .ref p3), (.inr "snap", .ref p4), (.inr "remove", .ref p5)]) rfl (fun R r => ⟨_, rfl, r⟩) (by show 1 ≤ 3; decide) e6 (by show 5 ≤ 20; decide) (fun _ => rfl) fun p6 G7 k7 e7 z6 n6 => ?_
    refine put_f (kvs' := [(.inr "write", .ref p1), (.inr "trim", .ref p2), (.inr "make", .ref p3), (.inr "snap", .ref p4), (.inr "remove", .ref p5), (.inr "register", .ref p6)]) rfl (fun R r => ⟨_, rfl, r⟩) (by show 1 ≤ 3; decide) e7 (by show 6 ≤ 20; decide) (fun _ => rfl) fun p7 G8 k8 e8 z7 n7 => ?_
    refine put_f (kvs' := [(.inr "write", .ref p1), (.inr "trim", .ref p2), (.inr "make", .ref p3), (.inr "snap", .ref p4), (.inr "remove", .ref p5), (.inr "register", .ref p6), (.inr "release", .ref p7)]) rfl (fun R r => ⟨_, rfl, _, rfl, r⟩) (by show 2 ≤ 3; decide) e8 (by show 7 ≤ 20; decide) (fun _ => rfl) fun p8 G9 k9 e9 z8 n8 => ?_
    have hF0 : H9 F = none := hF
    have sm9 : Same H9 G9 := fun b o e => (k0.trans (kF.trans (k5.trans (k6.trans (k7.trans (k8.trans k9)))))) b o (fun z => by rw [z, hF0] at e; cases e) e
    have SA9 := (SA8.same s9).same sm9
    refine ⟨_, rfl, _, rfl, w, st, d4, rfl, SA9, fun mv G10 s10 hm => ⟨by show 1 ≤ sizeLine; decide, fun p9 hp9 => ?_⟩⟩
    have s11 := same_new (o := .tup [mv]) hp9
    have x9 : (upd G10 p9 (.tup [mv])) p9 = some (.tup [mv]) := upd_same
    generalize upd G10 p9 (.tup [mv]) = G11 at s11 x9
    have sA := s10.trans s11
    have eF11 := sA _ _ e9
    refine ⟨_, rfl, F, _, rfl, DPut.k (k := .inr "mark") eF11 (by show 8 < sizeLine; decide), ?_⟩
    have n9 : p9 ≠ F := fun e => by rw [e, eF11] at x9; cases x9
    have kL : Kp F G11 (upd G11 F (.dK ([(.inr "write", .ref p1), (.inr "trim", .ref p2), (.inr "make", .ref p3), (.inr "snap", .ref p4), (.inr "remove", .ref p5), (.inr "register", .ref p6), (.inr "release", .ref p7), (.inr "leave", .ref p8), (.inr "mark", .ref p9)]))) := fun b o n e => by rw [upd_ne n]; exact e
    have eL : (upd G11 F (.dK ([(.inr "write", .ref p1), (.inr "trim", .ref p2), (.inr "make", .ref p3), (.inr "snap", .ref p4), (.inr "remove", .ref p5), (.inr "register", .ref p6), (.inr "release", .ref p7), (.inr "leave", .ref p8), (.inr "mark", .ref p9)]))) F = some (.dK ([(.inr "write", .ref p1), (.inr "trim", .ref p2), (.inr "make", .ref p3), (.inr "snap", .ref p4), (.inr "remove", .ref p5), (.inr "register", .ref p6), (.inr "release", .ref p7), (.inr "leave", .ref p8), (.inr "mark", .ref p9)])) := upd_same
    have eq : putK ([((.inr "write" : Key), V.ref p1), (.inr "trim", .ref p2), (.inr "make", .ref p3), (.inr "snap", .ref p4), (.inr "remove", .ref p5), (.inr "register", .ref p6), (.inr "release", .ref p7)] ++ [(.inr "leave", .ref p8)]) (.inr "mark") (.ref p9) = [(.inr "write", .ref p1), (.inr "trim", .ref p2), (.inr "make", .ref p3), (.inr "snap", .ref p4), (.inr "remove", .ref p5), (.inr "register", .ref p6), (.inr "release", .ref p7), (.inr "leave", .ref p8), (.inr "mark", .ref p9)] := rfl
    have eq' : (upd G11 F (.dK (putK ([((.inr "write" : Key), V.ref p1), (.inr "trim", .ref p2), (.inr "make", .ref p3), (.inr "snap", .ref p4), (.inr "remove", .ref p5), (.inr "register", .ref p6), (.inr "release", .ref p7)] ++ [(.inr "leave", .ref p8)]) (.inr "mark") (.ref p9)))) = upd G11 F (.dK [(.inr "write", .ref p1), (.inr "trim", .ref p2), (.inr "make", .ref p3), (.inr "snap", .ref p4), (.inr "remove", .ref p5), (.inr "register", .ref p6), (.inr "release", .ref p7), (.inr "leave", .ref p8), (.inr "mark", .ref p9)]) := by rw [eq]
    have kA : Kp F G9 (upd G11 F (.dK (putK ([((.inr "write" : Key), V.ref p1), (.inr "trim", .ref p2), (.inr "make", .ref p3), (.inr "snap", .ref p4), (.inr "remove", .ref p5), (.inr "register", .ref p6), (.inr "release", .ref p7)] ++ [(.inr "leave", .ref p8)]) (.inr "mark") (.ref p9)))) := by rw [eq']; exact (Kp.of sA).trans kL
    have x9L : (upd G11 F (.dK (putK ([((.inr "write" : Key), V.ref p1), (.inr "trim", .ref p2), (.inr "make", .ref p3), (.inr "snap", .ref p4), (.inr "remove", .ref p5), (.inr "register", .ref p6), (.inr "release", .ref p7)] ++ [(.inr "leave", .ref p8)]) (.inr "mark") (.ref p9)))) p9 = some (.tup [mv]) := by rw [eq']; exact kL _ _ n9 x9
    have tkm : TK G10 (upd G11 F (.dK (putK ([((.inr "write" : Key), V.ref p1), (.inr "trim", .ref p2), (.inr "make", .ref p3), (.inr "snap", .ref p4), (.inr "remove", .ref p5), (.inr "register", .ref p6), (.inr "release", .ref p7)] ++ [(.inr "leave", .ref p8)]) (.inr "mark") (.ref p9)))) := (TK.of s11).trans (tk_upd eF11 (fun _ z => nomatch z) (fun _ _ z => nomatch z))
    have eLL : (upd G11 F (.dK (putK ([((.inr "write" : Key), V.ref p1), (.inr "trim", .ref p2), (.inr "make", .ref p3), (.inr "snap", .ref p4), (.inr "remove", .ref p5), (.inr "register", .ref p6), (.inr "release", .ref p7)] ++ [(.inr "leave", .ref p8)]) (.inr "mark") (.ref p9)))) F = some (.dK [(.inr "write", .ref p1), (.inr "trim", .ref p2), (.inr "make", .ref p3), (.inr "snap", .ref p4), (.inr "remove", .ref p5), (.inr "register", .ref p6), (.inr "release", .ref p7), (.inr "leave", .ref p8), (.inr "mark", .ref p9)]) := by rw [eq']; exact eL
    generalize (upd G11 F (.dK (putK ([((.inr "write" : Key), V.ref p1), (.inr "trim", .ref p2), (.inr "make", .ref p3), (.inr "snap", .ref p4), (.inr "remove", .ref p5), (.inr "register", .ref p6), (.inr "release", .ref p7)] ++ [(.inr "leave", .ref p8)]) (.inr "mark") (.ref p9)))) = G12 at kA x9L tkm eLL
    have sm12 : Same H9 G12 := fun b o e => kA b o (fun z => by rw [z, hF0] at e; cases e) (sm9 _ _ e)
    have kk := k5.trans (k6.trans (k7.trans (k8.trans (k9.trans kA))))
    have y1 := SqT.of (K := K) (kk _ _ n1 z1)
    have y2 := SqT.of (K := K) (kk _ _ n2 z2)
    have y3 := SqT.of (K := K) (kk _ _ n3 z3)
    have y4 := SqT.of (K := K) ((k6.trans (k7.trans (k8.trans (k9.trans kA)))) _ _ n4 z4)
    have y5 := SqT.of (K := K) ((k7.trans (k8.trans (k9.trans kA))) _ _ n5 z5)
    have y6 := SqT.of (K := K) ((k8.trans (k9.trans kA)) _ _ n6 z6)
    have y7 := SqT.of (K := K) ((k9.trans kA) _ _ n7 z7)
    have y8 := SqT.of (K := K) (kA _ _ n8 z8)
    have tab : ∃ b p ys, kindS b = k' ∧ valV [((.inr "write" : Key), V.ref p1), (.inr "trim", .ref p2), (.inr "make", .ref p3), (.inr "snap", .ref p4), (.inr "remove", .ref p5), (.inr "register", .ref p6), (.inr "release", .ref p7), (.inr "leave", .ref p8), (.inr "mark", .ref p9)] (.inr k') = some (.ref p) ∧ SqT K G12 p ys ∧ DpAll K G12 ys (fldD b) ∧ BdN 1000 b ∧ (∀ d, b = .mark d → d = told4 st d4) ∧ StepOk st b := by
      have hN' : Bn 1000 (1 + d1) := hN
      have ex : k' ≠ "make" → k' ≠ "mark" → ∃ s, lookI st.sp (1 + d1) = some s := fun n1 n2 => by
        rcases hok with ⟨_, e | e⟩ | ⟨ex, _⟩
        · exact absurd e n1
        · exact absurd e n2
        · exact ex
      have nx : k' = "make" → lookI st.sp (1 + d1) = none := fun e => by
        rcases hok with ⟨l0, _⟩ | ⟨_, n⟩
        · exact l0
        · exact absurd e n
      simp only [KS9, List.mem_cons, List.not_mem_nil, or_false] at hk9
      rcases hk9 with rfl | rfl | rfl | rfl | rfl | rfl | rfl | rfl | rfl
      · exact ⟨.write (1 + d1) pl (d3 - 2), p1, _, rfl, rfl, y1, .cons (.int _) (.cons (.int _) (.cons (.int _) .nil)), ⟨hN, plb, by omega⟩, (fun d e => nomatch e), stepOk_in rfl rfl (ex (by decide +kernel) (by decide +kernel))⟩
      · exact ⟨.trim (1 + d1) pl, p2, _, rfl, rfl, y2, .cons (.int _) (.cons (.int _) .nil), ⟨hN, plb⟩, (fun d e => nomatch e), stepOk_in rfl rfl (ex (by decide +kernel) (by decide +kernel))⟩
      · exact ⟨.make (1 + d1) 64, p3, _, rfl, rfl, y3, .cons (.int _) (.cons (.int _) .nil), ⟨hN, by decide⟩, (fun d e => nomatch e), fun n h => by cases h; exact nx rfl⟩
      · exact ⟨.snap (1 + d1), p4, _, rfl, rfl, y4, .cons (.int _) .nil, hN, (fun d e => nomatch e), stepOk_in rfl rfl (ex (by decide +kernel) (by decide +kernel))⟩
      · exact ⟨.remove (1 + d1), p5, _, rfl, rfl, y5, .cons (.int _) .nil, hN, (fun d e => nomatch e), stepOk_in rfl rfl (ex (by decide +kernel) (by decide +kernel))⟩
      · exact ⟨.register (1 + d1), p6, _, rfl, rfl, y6, .cons (.int _) .nil, hN, (fun d e => nomatch e), stepOk_in rfl rfl (ex (by decide +kernel) (by decide +kernel))⟩
      · exact ⟨.release (1 + d1), p7, _, rfl, rfl, y7, .cons (.int _) .nil, hN, (fun d e => nomatch e), stepOk_in rfl rfl (ex (by decide +kernel) (by decide +kernel))⟩
      · exact ⟨.leave (1 + d1) hb, p8, _, rfl, rfl, y8, .cons (.int _) (.cons (.bl _) .nil), hN, (fun d e => nomatch e), stepOk_in rfl rfl (ex (by decide +kernel) (by decide +kernel))⟩
      · exact ⟨.mark (told4 st d4), p9, _, rfl, rfl, SqT.of x9L, .cons (dp_tk tkm _ _ (TO d4) hm) .nil, True.intro, (fun d e => by cases e; rfl), stepOk_mark⟩
    obtain ⟨b, p, ys', rfl, hv, a1, a2, a3, a4, a5⟩ := tab
    refine ⟨_, rfl, _, rfl, _, rfl, _, rfl, _, rfl, F, .ref p, rfl, .inl ⟨_, .inr (kindS b), .inl eLL, rfl, hv.symm⟩, ?_⟩
    exact fin b p ys' G12 a5 (s69.trans sm12) a1 a2 a3 a4
end
end Sg

set_option Elab.async false
set_option linter.all false
set_option maxRecDepth 100000
set_option maxHeartbeats 4000000
namespace Sg
open PySem PySem.Spec PyProof.Rows L2
/-! ### what stands in every turn of the law -/
theorem asc_app {rs : List Rc} {r : Rc} (h : rs.Pairwise (fun x y => x.o < y.o)) (hr : ∀ x ∈ rs, x.o < r.o) : (rs ++ [r]).Pairwise (fun x y => x.o < y.o) :=
  List.pairwise_append.mpr ⟨h, List.pairwise_singleton _ _, fun x hx y hy => by rw [List.mem_singleton.mp hy]; exact hr x hx⟩
section
variable {K : PySem.W.Frag} {R : Addr} {H H' : Hp}
theorem Kp.tk (k : Kp R H H') (h : ∃ xs, H R = some (.lst xs)) : TK H H' := by
  obtain ⟨xs, h⟩ := h
  exact ⟨fun a ys e => k _ _ (fun z => by rw [z, h] at e; cases e) e, fun a o ys e => k _ _ (fun z => by rw [z, h] at e; cases e) e⟩
theorem CellAt.kp {c : Addr} {cs : Cells} (k : Kp R H H') (h : ∃ xs, H R = some (.lst xs)) (a : CellAt K H c cs) : CellAt K H' c cs := by
  obtain ⟨xs, h⟩ := h
  obtain ⟨kvs, hc, pr⟩ := id a
  exact TabAt.off a (fun o e => k _ _ (fun z => by rw [z, h] at hc; cases hc) e) fun _ _ z => z
theorem SpcAt.kp {v : V} {x : Spc} (k : Kp R H H') (h : ∃ xs, H R = some (.lst xs)) (a : SpcAt K H v x) : SpcAt K H' v x := by
  obtain ⟨a, c, f, e, h1, h2, h3⟩ := a
  exact ⟨a, c, f, e, sqT_tk h1 (k.tk h), h2.kp k h, h3.tk (k.tk h)⟩
theorem SnpAt.kp {v : V} {x : Cells} (k : Kp R H H') (h : ∃ xs, H R = some (.lst xs)) (a : SnpAt K H v x) : SnpAt K H' v x := by
  obtain ⟨c, e, hc⟩ := a
  exact ⟨c, e, hc.kp k h⟩
theorem StAt.kp {a : Addr} {st : Sta} (k : Kp R H H') (h : ∃ xs, H R = some (.lst xs)) (to : ∀ p ∈ st.mr, tupO p.2.an = true ∧ tupO p.2.td = true) (s : StAt K H a st) : StAt K H' a st := by
  obtain ⟨xs, hR⟩ := id h
  obtain ⟨b1, b2, b3, ha, t1, t2, t3⟩ := s
  obtain ⟨k1, e1, _⟩ := id t1
  obtain ⟨k2, e2, _⟩ := id t2
  obtain ⟨k3, e3, p3, n3⟩ := id t3
  have ne : ∀ {b : Addr} {o : HO}, H b = some o → (∀ ys, o ≠ .lst ys) → b ≠ R := fun e n z => by rw [z, hR] at e; cases e; exact n _ rfl
  refine ⟨b1, b2, b3, k _ _ (ne ha fun _ z => nomatch z) ha, TabAt.off t1 (fun o e => k _ _ (ne e1 fun _ z => nomatch z) e) fun _ _ z => z.kp k h, TabAt.off t2 (fun o e => k _ _ (ne e2 fun _ z => nomatch z) e) fun _ _ z => z.kp k h, k3, k _ _ (ne e3 fun _ z => nomatch z) e3, pairs_mem (fun p q hq z => ⟨z.1, ?_⟩) p3, n3⟩
  have := to q hq
  exact dp_tk (k.tk h) _ _ (by simp [markD, tupO, tupOs, this.1, this.2]) z.2
end
structure LI (n : Nat) (st : Sta) : Prop where
  g : StG (3 * n) st
  srt : SrtS st
  mks : MrkS st
  num : NumS 1000 st
  mn : MrkNs ((n : Int) + 1) st
  o0 : 0 ≤ st.o
  o1 : st.o ≤ 2 * (n : Int)
theorem li_empty : LI 0 emptyS := ⟨empty_g, (fun _ h => nomatch h), (fun _ h => nomatch h), ⟨(fun _ h => nomatch h), (fun _ h => nomatch h)⟩, (fun _ h => nomatch h), by decide, by decide⟩
theorem LI.told {n : Nat} {st : Sta} (h : LI n st) (hn : n ≤ 100) (x : Int) : tupO (told4 st x) = true := (told4_txt (M := (n : Int) + 1) (by omega) h.mn).1
theorem sess_b {st : Sta} {h : Int} {b : Bd} {M : Int} (g : MrkNs M st) (hM : 1 ≤ M) : Bn (M + 1) (sessN st h b) := by
  have e : Bn M (match lookI st.mr h with | none => 1 | some m => m.s) := by
    cases e : lookI st.mr h with
    | none => show ((1 : Int).natAbs : Int) ≤ M; omega
    | some m => exact (g _ (look_mem e)).2.s
  have key : ∀ x : Int, Bn M x → Bn (M + 1) (x + (if kindS b = "mark" then 1 else 0)) := fun x hx => by
    have hx' : (x.natAbs : Int) ≤ M := hx
    show ((x + _).natAbs : Int) ≤ M + 1
    split <;> omega
  exact key _ e
theorem cnt_b {st : Sta} {h : Int} {b : Bd} {M : Int} (g : MrkNs M st) (hM : 1 ≤ M) : Bn (M + 1) (cntN st h b) := by
  have e : Bn M (match lookI st.mr h with | none => 0 | some m => m.c) := by
    cases e : lookI st.mr h with
    | none => show ((0 : Int).natAbs : Int) ≤ M; omega
    | some m => exact (g _ (look_mem e)).2.c
  have key : ∀ x : Int, Bn M x → Bn (M + 1) (if kindS b = "mark" then 0 else x + 1) := fun x hx => by
    have hx' : (x.natAbs : Int) ≤ M := hx
    split
    · show ((0 : Int).natAbs : Int) ≤ M + 1; omega
    · show ((x + 1).natAbs : Int) ≤ M + 1; omega
  exact key _ e
theorem LI.record {n : Nat} {st : Sta} {h o : Int} {b : Bd} (I : LI n st) (hn : n ≤ 100) (h0 : 0 ≤ h) (h4 : h < 4) (o0 : st.o < o) (o1 : o ≤ st.o + 2) (hb : BdN 1000 b) (hm : ∀ d, b = .mark d → d = told4 st h) : LI (n + 1) (afterR st ⟨o, h, sessN st h b, cntN st h b, b⟩) := by
  have a := I.o0; have c := I.o1
  have bo : Bn 1000 o := by show (o.natAbs : Int) ≤ 1000; omega
  have bh : Bn 1000 h := by show (h.natAbs : Int) ≤ 1000; omega
  refine ⟨I.g.record.mono (by omega), I.srt.record, I.mks.record fun d e => ?_, I.num.record bo bh hb, MrkNs.record I.mn (by omega) (by omega) bh ?_ ?_ bo hm, ?_, ?_⟩
  · rw [hm d e]; exact told4_g I.mks
  · have := sess_b (h := h) (b := b) I.mn (by omega)
    refine Int.le_trans this (by omega)
  · have := cnt_b (h := h) (b := b) I.mn (by omega)
    refine Int.le_trans this (by omega)
  · rw [law_eq]; show 0 ≤ o; omega
  · rw [law_eq]; show o ≤ _; omega
theorem LI.show {n : Nat} {st : Sta} (I : LI n st) (hn : n ≤ 60) : ShowS st := by
  have a := I.o0; have c := I.o1
  exact show_of (n := 200) (M := (n : Int) + 1) (Nat.le_refl _) (by omega) (by show (st.o.natAbs : Int) ≤ 1000; omega) (I.g.mono (by omega)) I.num I.mn I.mks
theorem LI.flat {n : Nat} {st : Sta} (I : LI n st) : ∀ p ∈ st.mr, tupO p.2.an = true ∧ tupO p.2.td = true := fun p hp => ⟨(I.mn p hp).2.an.1, (I.mn p hp).2.td.1⟩
theorem LI.mok {n : Nat} {st : Sta} (I : LI n st) : ∀ p ∈ st.mr, MrkOk p.2 := fun p hp => (I.mks p hp).ok
theorem step_good {n : Nat} {st : Sta} {h o s c : Int} {b : Bd} (I : LI n st) (hn : n ≤ 100) (hb : BdN 1000 b) (hm : ∀ d, b = .mark d → d = told4 st h) : RGood ⟨o, h, s, c, b⟩ := by
  have hk : PyData.strOk (kindS b) = true := by cases b <;> (dsimp only [kindS]; decide +kernel)
  have two : ∀ x ∈ (["write", "alone"] : List Str), PyData.strOk x = true := by decide +kernel
  have m1 := I.told hn h
  have m2 := told4_g (h := h) I.mks
  have fl : tupOs (fldD b) = true ∧ PyData.canLayAll0 (fldD b) = true ∧ PyData.depthAll (fldD b) ≤ 2 := by
    cases b with
    | mark d =>
      rw [hm d rfl]
      have := m2.2
      exact ⟨by simp [fldD, tupOs, m1], by simp [fldD, PyData.canLayAll0, m2.1], by simp only [fldD, PyData.depthAll]; omega⟩
    | preempt n v w =>
      cases w with
      | none => exact ⟨by simp [fldD, tupOs, tupO, wayD], by simp [fldD, PyData.canLayAll0, PyData.canLay0, wayD], by simp [fldD, PyData.depthAll, PyData.depth, wayD]⟩
      | some w => exact ⟨by simp [fldD, tupOs, tupO, wayD], by simp [fldD, PyData.canLayAll0, PyData.canLay0, wayD, two w (hb.2.2 w rfl)], by simp [fldD, PyData.depthAll, PyData.depth, wayD]⟩
    | reserve n w => exact ⟨by simp [fldD, tupOs, tupO], by simp [fldD, PyData.canLayAll0, PyData.canLay0, two w hb.2], by simp [fldD, PyData.depthAll, PyData.depth]⟩
    | _ => exact ⟨by simp [fldD, tupOs, tupO], by simp [fldD, PyData.canLayAll0, PyData.canLay0], by simp [fldD, PyData.depthAll, PyData.depth]⟩
  refine ⟨fl.1, ?_, ?_⟩
  · simp [recDt, PyData.canLay0, PyData.canLayAll0, hk, fl.2.1]
  · have := fl.2.2
    simp only [recDt, PyData.depth, PyData.depthAll]; omega
end Sg

set_option Elab.async false
set_option linter.all false
set_option maxRecDepth 100000
set_option maxHeartbeats 4000000
namespace Sg
open PySem PySem.Spec PyProof.Rows L2
/-! ### two states that say the same, on the heap -/
theorem look_in {α β : Type} [DecidableEq α] {l : List (α × β)} {k : α} : k ∈ l.map (·.1) ↔ (lookI l k).isSome = true := by
  constructor
  · intro h
    obtain ⟨p, hp, e⟩ := List.mem_map.mp h
    cases e2 : lookI l k with
    | some v => rfl
    | none =>
      unfold lookI at e2
      rw [Option.map_eq_none_iff, List.find?_eq_none] at e2
      exact absurd (by simpa using e) (e2 p hp)
  · intro h
    cases e : lookI l k with
    | none => rw [e] at h; cases h
    | some v => exact List.mem_map.mpr ⟨_, look_mem e, rfl⟩
theorem tabs_any {κ α β : Type} [DecidableEq κ] [DecidableEq α] {emb : α → κ} (he : ∀ a b, emb a = emb b → a = b) {R : V → β → Prop} {F : V → V → Prop} {ks ls : List (κ × V)} {l m : List (α × β)} (ndl : (l.map (·.1)).Nodup) (ndm : (m.map (·.1)).Nodup)
    (h1 : Paired (fun (p : κ × V) (q : α × β) => p.1 = emb q.1 ∧ R p.2 q.2) ks l) (h2 : Paired (fun (p : κ × V) (q : α × β) => p.1 = emb q.1 ∧ R p.2 q.2) ls m) (iso : ∀ k, (lookI l k).isSome = (lookI m k).isSome) (rel : ∀ k x y, lookI l k = some x → lookI m k = some y → ∀ u v, R u x → R v y → F u v) :
    ks.length = ls.length ∧ ∀ p ∈ ks, ∃ u, valV ls p.1 = some u ∧ F p.2 u := by
  have pm : (l.map (·.1)).Perm (m.map (·.1)) := (List.perm_ext_iff_of_nodup ndl ndm).mpr fun k => by rw [look_in, look_in, iso]
  have len := pm.length_eq
  rw [List.length_map, List.length_map] at len
  refine ⟨by rw [Paired.length h1, Paired.length h2, len], fun p hp => ?_⟩
  obtain ⟨i, hi⟩ := List.mem_iff_getElem?.mp hp
  obtain ⟨q, hq, e1, r1⟩ := paired_at h1 hi
  obtain ⟨k, x⟩ := q
  have e1 : p.1 = emb k := e1
  have hm := List.mem_of_getElem? hq
  have lk : lookI l k = some x := by
    cases e : lookI l k with
    | none =>
      have := look_in.mp (List.mem_map.mpr ⟨_, hm, rfl⟩)
      rw [e] at this; cases this
    | some x' =>
      have a := look_mem e
      obtain ⟨i1, h3⟩ := List.mem_iff_getElem?.mp hm
      obtain ⟨i2, h4⟩ := List.mem_iff_getElem?.mp a
      have g1 : (l.map (·.1))[i1]? = some k := by rw [List.getElem?_map, h3]; rfl
      have g2 : (l.map (·.1))[i2]? = some k := by rw [List.getElem?_map, h4]; rfl
      have l1 := (List.getElem?_eq_some_iff.mp g1).1
      have l2 := (List.getElem?_eq_some_iff.mp g2).1
      have ee := (List.getElem?_eq_some_iff.mp g1).2.trans (List.getElem?_eq_some_iff.mp g2).2.symm
      have : i1 = i2 := by
        rcases Nat.lt_trichotomy i1 i2 with c | c | c
        · exact absurd ee ((List.pairwise_iff_getElem.mp ndl) i1 i2 l1 l2 c)
        · exact c
        · exact absurd ee.symm ((List.pairwise_iff_getElem.mp ndl) i2 i1 l2 l1 c)
      subst this
      rw [h3] at h4; cases h4; rfl
  rcases pr_look (R := R) he (k := k) h2 with ⟨l0, _⟩ | ⟨y, z, l0, hz, az⟩
  · have := iso k
    rw [lk, l0] at this; cases this
  · exact ⟨z, by rw [e1]; exact hz, rel k x y lk l0 _ _ r1 az⟩
section
variable {K : PySem.W.Frag} {H : Hp}
theorem eqSA_data {n : Nat} {x y : V} {d : PyData} (h1 : Dp K H x d) (h2 : Dp K H y d) (l : d.canLay0 = true) (dp : d.depth ≤ 64) : EqSA K H (n + 1) x y := .inl ⟨d, h1, h2, l, dp⟩
theorem cells_eqA {n : Nat} {a b : Addr} {cs ds : Cells} (h1 : CellAt K H a cs) (h2 : CellAt K H b ds) (e : ∀ p, lookI cs p = lookI ds p) : EqSA K H (n + 2) (.ref a) (.ref b) := by
  obtain ⟨ks, ha, pa, nd⟩ := h1
  obtain ⟨ls, hb, pb, nd2⟩ := h2
  obtain ⟨e', hp⟩ := tabs_any (R := fun x (v : Int) => x = .int v) (F := EqSA K H (n + 1)) eI_inj nd nd2 pa pb (fun k => by rw [e]) (fun k x y h1 h2 u v r1 r2 => by
    rw [e, h2] at h1; cases h1
    subst r1 r2
    exact eqSA_data (.int _) (.int _) (by simp [PyData.canLay0]) (by simp [PyData.depth]))
  exact .inr (.inr (.inl ⟨a, b, ks, ls, rfl, rfl, ha, hb, e', hp⟩))
theorem rg_eq {rs ss : List (Int × Int)} (h1 : SrtR rs) (h2 : SrtR ss) (e : ∀ h, lookI rs h = lookI ss h) : rs = ss := by
  have n1 := srt_nodup h1
  have n2 := srt_nodup h2
  have of : ∀ {l : List (Int × Int)} {x : Int × Int}, (l.map (·.1)).Nodup → (x ∈ l ↔ lookI l x.1 = some x.2) := fun {l x} nd => by
    constructor
    · intro h
      have : lookI l x.1 = lookI (x :: l.erase x) x.1 := lk_perm (List.perm_cons_erase h) nd _
      rw [this]; simp [lookI]
    · intro h; exact look_mem h
  have pm : rs.Perm ss := (List.perm_ext_iff_of_nodup (h1.imp fun h e => by rw [e] at h; omega) (h2.imp fun h e => by rw [e] at h; omega)).mpr fun x => by rw [of n1, of n2, e]
  exact List.Perm.eq_of_pairwise (fun a b _ _ h1 h2 => by omega) h1 h2 pm
theorem space_eqA {n : Nat} {x y : V} {s t : Spc} (h1 : SpcAt K H x s) (h2 : SpcAt K H y t) (ez : s.z = t.z) (ec : ∀ p, lookI s.cs p = lookI t.cs p) (eg : s.rg = t.rg) (eh : s.hd = t.hd) : EqSA K H (n + 3) x y := by
  obtain ⟨a, c, f, rfl, a1, a2, a3⟩ := h1
  obtain ⟨b, d, g, rfl, b1, b2, b3⟩ := h2
  rw [← ez] at b1
  rw [← eg, ← eh] at b3
  obtain ⟨l1, l2⟩ := fence_lay (rg := s.rg) (fence_ok a3)
  exact .inr (.inl ⟨a, b, _, _, rfl, rfl, a1, b1, .cons (eqSA_data (.int _) (.int _) (by simp [PyData.canLay0]) (by simp [PyData.depth])) (.cons (cells_eqA a2 b2 ec) (.cons (eqSA_data (fence_dp a3) (fence_dp b3) l1 l2) .nil))⟩)
theorem state_eqA {a b : Addr} {s t : Sta} (h1 : StAt K H a s) (h2 : StAt K H b t) (E : EqSt s t) (mk : ∀ p ∈ t.mr, MrkOk p.2) (so1 : ∀ p ∈ s.sp, SrtR p.2.rg) (so2 : ∀ p ∈ t.sp, SrtR p.2.rg) : ∃ ks ls, H a = some (.dK ks) ∧ H b = some (.dK ls) ∧ ks.length = ls.length ∧ ∀ p ∈ ks, ∃ u, valV ls p.1 = some u ∧ EqSA K H 5 p.2 u := by
  obtain ⟨b1, b2, b3, ha, t1, t2, t3⟩ := h1
  obtain ⟨c1, c2, c3, hb, u1, u2, u3⟩ := h2
  refine ⟨_, _, ha, hb, rfl, fun p hp => ?_⟩
  have s1 : EqSA K H 5 (.ref b1) (.ref c1) := by
    obtain ⟨ks, g1, g2, nd⟩ := t1
    obtain ⟨ls, k1, k2, nd2⟩ := u1
    obtain ⟨e, hp⟩ := tabs_any (R := SpcAt K H) (F := EqSA K H 4) eI_inj nd nd2 g2 k2 (fun k => by
      have := E.sp k
      cases e1 : lookI s.sp k with
      | none => cases e2 : lookI t.sp k with
        | none => rfl
        | some y => rw [e1, e2] at this; exact this.elim
      | some x => cases e2 : lookI t.sp k with
        | none => rw [e1, e2] at this; exact this.elim
        | some y => rfl) (fun k x y e1 e2 u v r1 r2 => by
      have := E.sp k
      rw [e1, e2] at this
      obtain ⟨z, c, g, h⟩ := this
      exact space_eqA r1 r2 z c (rg_eq (so1 _ (look_mem e1)) (so2 _ (look_mem e2)) g) h)
    exact .inr (.inr (.inl ⟨b1, c1, ks, ls, rfl, rfl, g1, k1, e, hp⟩))
  have s2 : EqSA K H 5 (.ref b2) (.ref c2) := by
    obtain ⟨ks, g1, g2, nd⟩ := t2
    obtain ⟨ls, k1, k2, nd2⟩ := u2
    obtain ⟨e, hp⟩ := tabs_any (R := SnpAt K H) (F := EqSA K H 4) eP_inj nd nd2 g2 k2 (fun k => by
      have := E.sn k.1 k.2
      cases e1 : lookI s.sn k with
      | none => cases e2 : lookI t.sn k with
        | none => rfl
        | some y => rw [show (k.1, k.2) = k from rfl, e1, e2] at this; exact this.elim
      | some x => cases e2 : lookI t.sn k with
        | none => rw [show (k.1, k.2) = k from rfl, e1, e2] at this; exact this.elim
        | some y => rfl) (fun k x y e1 e2 u v r1 r2 => by
      have := E.sn k.1 k.2
      rw [show (k.1, k.2) = k from rfl, e1, e2] at this
      obtain ⟨d, rfl, d1⟩ := r1
      obtain ⟨e, rfl, e1⟩ := r2
      exact cells_eqA d1 e1 this)
    exact .inr (.inr (.inr ⟨b2, c2, ks, ls, rfl, rfl, g1, k1, e, hp⟩))
  have s3 : EqSA K H 5 (.ref b3) (.ref c3) := by
    obtain ⟨ks, g1, g2, nd⟩ := t3
    obtain ⟨ls, k1, k2, nd2⟩ := u3
    obtain ⟨e, hp⟩ := tabs_any (R := MrkAt K H) (F := EqSA K H 4) eI_inj nd nd2 g2 k2 (fun k => by rw [E.mr]) (fun k x y e1 e2 u v r1 r2 => by
      have ok := mk _ (look_mem e2)
      rw [E.mr, e2] at e1; cases e1
      exact eqSA_data r1 r2 ok.1 ok.2)
    exact .inr (.inr (.inl ⟨b3, c3, ks, ls, rfl, rfl, g1, k1, e, hp⟩))
  have s0 : EqSA K H 5 (.int s.o) (.int t.o) := by
    rw [E.o]; exact eqSA_data (.int _) (.int _) (by simp [PyData.canLay0]) (by simp [PyData.depth])
  unfold stK at hp
  simp only [List.mem_cons, List.not_mem_nil, or_false] at hp
  rcases hp with rfl | rfl | rfl | rfl
  · exact ⟨_, rfl, s0⟩
  · exact ⟨_, rfl, s1⟩
  · exact ⟨_, rfl, s2⟩
  · exact ⟨_, rfl, s3⟩
theorem ne_teA {a b : Addr} {s t : Sta} {Q : VK} (h1 : StAt K H a s) (h2 : StAt K H b t) (E : EqSt s t) (mk : ∀ p ∈ t.mr, MrkOk p.2) (so1 : ∀ p ∈ s.sp, SrtR p.2.rg) (so2 : ∀ p ∈ t.sp, SrtR p.2.rg) (q : Q (.bl false) H) : rNeSA K (.ref a) (.ref b) H Q := by
  obtain ⟨ks, ls, e1, e2, hl, hp⟩ := state_eqA h1 h2 E mk so1 so2
  exact ⟨5, a, b, ks, ls, by decide, rfl, rfl, e1, e2, hl, hp, q⟩
theorem eq_teA {a b : Addr} {s t : Sta} {Q : VK} (h1 : StAt K H a s) (h2 : StAt K H b t) (E : EqSt s t) (mk : ∀ p ∈ t.mr, MrkOk p.2) (so1 : ∀ p ∈ s.sp, SrtR p.2.rg) (so2 : ∀ p ∈ t.sp, SrtR p.2.rg) (q : Q (.bl true) H) : rEqSA K (.ref a) (.ref b) H Q := by
  obtain ⟨ks, ls, e1, e2, hl, hp⟩ := state_eqA h1 h2 E mk so1 so2
  exact ⟨5, by decide, .inr (.inl ⟨a, b, ks, ls, rfl, rfl, e1, e2, hl, hp⟩), q⟩
end
end Sg

set_option Elab.async false
set_option linter.all false
set_option maxRecDepth 100000
set_option maxHeartbeats 4000000
namespace Sg
open PySem PySem.Spec PyProof.Rows L2
/-! ### one record more -/
theorem rm_eq {b : Bd} {n : Int} (h : nsM b = some n) (m : isRm b = true) : b = .remove n := by
  cases b with
  | remove k => obtain rfl : k = n := Option.some.inj h; rfl
  | _ => cases m
theorem seg_app {n : Int} {r : Rc} : ∀ (Y : List Rc) (st : Sta), SegB n (lookI st.sp n).isSome Y → (nsM r.b = some n → isRm r.b = false ∧ (if isMk r.b = true then lookI (Y.foldl afterR st).sp n = none else ∃ s, lookI (Y.foldl afterR st).sp n = some s)) → SegB n (lookI st.sp n).isSome (Y ++ [r])
  | [], st, _, ok => by
    by_cases hn : nsM r.b = some n
    · obtain ⟨nrm, o⟩ := ok hn
      refine .inl ⟨hn, nrm, ?_, trivial⟩
      cases hm : isMk r.b with
      | true =>
        rw [hm, if_pos rfl] at o
        rw [show lookI st.sp n = none from o]; rfl
      | false =>
        rw [hm, if_neg Bool.false_ne_true] at o
        obtain ⟨s, hs⟩ := o
        rw [show lookI st.sp n = some s from hs]; rfl
    · exact .inr ⟨hn, trivial⟩
  | q :: Y, st, S, ok => by
    rcases S with ⟨hn, nrm, mk, S⟩ | ⟨hn, S⟩
    · have o : if isMk q.b = true then lookI st.sp n = none else ∃ s, lookI st.sp n = some s := by
        cases h0 : lookI st.sp n with
        | none =>
          rw [h0] at mk
          have mk' : isMk q.b = true := mk
          rw [mk', if_pos rfl]
        | some s =>
          rw [h0] at mk
          have mk' : isMk q.b = false := mk
          rw [mk', if_neg Bool.false_ne_true]
          exact ⟨s, rfl⟩
      refine .inl ⟨hn, nrm, mk, ?_⟩
      have e : (lookI (afterR st q).sp n).isSome = true := by rw [look_sp]; exact new_some hn nrm o
      have := seg_app Y (afterR st q) (by rw [e]; exact S) ok
      rw [e] at this; exact this
    · refine .inr ⟨hn, ?_⟩
      have e : lookI (afterR st q).sp n = lookI st.sp n := by
        rw [look_sp]
        obtain ⟨o, h, s, c, b⟩ := q
        cases b with
        | mark d => rfl
        | leave m hb => cases hb <;> exact if_neg fun z => hn (by rw [z]; rfl)
        | preempt m v w => cases w <;> exact if_neg fun z => hn (by rw [z]; rfl)
        | snap m => rfl
        | drop m k => rfl
        | _ => exact if_neg fun z => hn (by rw [z]; rfl)
      have := seg_app Y (afterR st q) (by rw [e]; exact S) ok
      rw [e] at this; exact this
theorem wf_app {n : Int} {rs : List Rc} {r : Rc} (w : WfN n rs) (ok : nsM r.b = some n → (if isMk r.b = true then lookI (foldR rs).sp n = none else ∃ s, lookI (foldR rs).sp n = some s)) : WfN n (rs ++ [r]) := by
  by_cases hr : nsM r.b = some n ∧ isRm r.b = true
  · exact ⟨rs ++ [r], [], by rw [List.append_nil], .inr ⟨rs, r, rfl, rm_eq hr.1 hr.2⟩, trivial⟩
  · obtain ⟨X, Y, rfl, hX, S⟩ := w
    refine ⟨X, Y ++ [r], List.append_assoc _ _ _, hX, ?_⟩
    have e : (lookI (foldR X).sp n).isSome = false := by
      rcases hX with rfl | ⟨X', q, rfl, hq⟩
      · rfl
      · unfold foldR
        rw [List.foldl_append]
        show (lookI (afterR (X'.foldl afterR emptyS) q).sp n).isSome = false
        rw [look_sp]
        unfold newSp
        rw [hq]
        show (if n = n then none else lookI (X'.foldl afterR emptyS).sp n : Option Spc).isSome = false
        rw [if_pos rfl]; rfl
    have := seg_app (n := n) (r := r) Y (foldR X) (by rw [e]; exact S) fun hn => ⟨by
      cases h : isRm r.b with
      | false => rfl
      | true => exact absurd ⟨hn, h⟩ hr, by
      have := ok hn
      unfold foldR at this ⊢
      rw [List.foldl_append] at this
      exact this⟩
    rw [e] at this
    exact this
theorem wf_nil {n : Int} : WfN n [] := ⟨[], [], rfl, .inl rfl, trivial⟩
end Sg

set_option Elab.async false
set_option linter.all false
set_option maxRecDepth 100000
set_option maxHeartbeats 4000000
namespace Sg
open PySem PySem.Spec PyProof.Rows L2
/-! ### the law -/
theorem u80_of {k : Nat} {A : Around} (hr : Room k A) : A.units + 80 < cLine := by have := hr.un; omega
--theorem bt_dict : bootBuiltins "dict" = some (.type "dict") := by decide +kernel
theorem bt_min : bootBuiltins "min" = some (.builtin "min") := by decide +kernel
--theorem bt_repr : bootBuiltins "repr" = some (.builtin "repr") := by decide +kernel
--theorem bt_isi : bootBuiltins "isinstance" = some (.builtin "isinstance") := by decide +kernel

def spLaw (K : PySem.W.Frag) : Sp := fun vs H Q _ => ∃ (a : Addr) (ns : List Int), vs = [.ref a] ∧ SqL K H a (ns.map V.int) ∧ ns.length ≤ 63 ∧ ∀ H', Q (.bl true) H'
theorem StepAt.same {K : PySem.W.Frag} {H H' : Hp} {p : Addr} {r : Rc} (h : StepAt K H p r) (s : Same H H') : StepAt K H' p r := by
  obtain ⟨fl, ys, a, b, c⟩ := h
  exact ⟨fl, ys, SqT_same s a, SqT_same s b, dpAll_same s _ _ c⟩

theorem srt_foldl : ∀ (rs : List Rc) {st : Sta}, SrtS st → SrtS (rs.foldl afterR st)
  | [], _, h => h
  | r :: rs, _, h => srt_foldl rs (h.record (r := r))
theorem srt_fold {rs : List Rc} : SrtS (foldR rs) := srt_foldl rs (fun _ h => nomatch h)
/-- what a world and a list of records must keep -/
structure Two (A B : List Rc) : Prop where
  sm : Same2 A B
  sub : B.Sublist A
  asc : AscR B
  wf : ∀ n, WfN n B
theorem Two.step {A B C : List Rc} (T : Two A B) (k : Kept B C) : Two A C := ⟨T.sm.step T.asc k, k.sub.trans T.sub, T.asc.sublist k.sub, fun n => wf_kept T.asc k (T.wf n)⟩
theorem kept_prog {A : List Rc} (asc : AscR A) : Kept A (progL A) := kept_of asc progL_sub fun _ h => h
theorem Two.live {A B : List Rc} (T : Two A B) : Two A (progL B) := T.step (kept_prog T.asc)
theorem Two.eq {A B : List Rc} (ascA : AscR A) (wA : ∀ n, WfN n A) (T : Two A B) : EqSt (foldR B) (foldR A) := eq_of ascA T.asc T.sm wA T.wf
section
variable {P : Program} {wd : World} {K : PySem.W.Frag} {mg : Str → Option Value} {base : Heap} {f fW fM fC fZ fR fF fO fL fY : Addr} {fd fdW fdM fdC fdZ fdR fdF fdO fdL fdY : FuncData}
theorem scLaw : FnScope ["script", "world", "records", "k", "step"] ["script"] (defScope sLaw) := ⟨rfl, rfl, rfl, by decide +kernel, rfl, by decide +kernel, by decide +kernel⟩
theorem ok_law (F : Fun K "law" "law" sLaw f fd) (B : BK mg) (GW : Def P wd K mg base CX0 "_law_start" 1 [] (spNewState K) fW fdW) (GM : Def P wd K mg base CX0 "_law_many" 1 ["script", "few", "many"] (spMany K) fM fdM) (GC : Def P wd K mg base CX0 "_law_cell" 1 ["script", "k"] (spCell K) fC fdC) (GZ : Def P wd K mg base CX0 "_law_step" 2 ["cell", "world", "many"] (spLStep K) fZ fdZ) (GR : Def P wd K mg base CX0 "_law_record" 1 ["order", "step"] (spLRecord K) fR fdR) (GF : Def P wd K mg base CX0 "_law_after" 4 ["world", "order", "step"] (spLAfter K) fF fdF) (GO : Def P wd K mg base CX0 "fold" 7 ["records"] (spFold K) fO fdO) (PL : Def P wd K mg base CX0 "live_records" 6 ["records"] (spLiveRec K) fL fdL) (PF : Def P wd K mg base CX0 "_law_left" 7 ["records","cell"] (spLLeft K) fY fdY) : FnOk P wd K mg base CX0 8 f fd ["script"] (spLaw K) := by
  refine F.ok scLaw (fun vs H Q E h => ?_) (fun cdv A outer s H vs Q E hr h => ?_)
  · obtain ⟨a, ns, rfl, _⟩ := h
    rfl
  · obtain ⟨sc, ns, rfl, hsc, hn, q⟩ := h
    have hr7 : Room 7 _ := hr
    have hr1 : Room 1 _ := hr.mono (by decide)
    have hr2 : Room 2 _ := hr.mono (by decide)
    have hr4 : Room 4 _ := hr.mono (by decide)
    have hr6 : Room 6 _ := hr.mono (by decide)
    refine ⟨_, (pss_cons (ps_set (i := 1) scLaw.nd rfl (Or.inl rfl) (pe_call0 GW.ok hr1 (by rfl) GW.mg GW.kp GW.bd .nil pass0))
      (pss_cons (ps_set (i := 2) scLaw.nd rfl (Or.inl rfl) (pe_lst pa_nil))
      (pss_cons (ps_for PassesOwn.never rfl (pi_range1 (by rfl) B.range (pa_cons (pe_callB (call_min2 rfl) (by rfl) B.min bt_min (pa_cons (pe_callB call_len_seq (by rfl) B.len PySem.boot_len (pa_cons (pv 0) pa_nil)) (pa_cons (pe_call GM.ok hr1 (by rfl) GM.mg GM.kp GM.bd .nil pass0 (pa_cons (pv 0) (pa_cons pe_int (pa_cons pe_int pa_nil)))) pa_nil))) pa_nil)) (pg_name (i := 3) scLaw.nd rfl (Or.inl rfl))
      (pss_cons (ps_set (i := 4) scLaw.nd rfl (Or.inl rfl) (pe_call GZ.ok hr2 (by rfl) GZ.mg GZ.kp GZ.bd .nil pass0 (pa_cons (pe_op op_add (pe_call GC.ok hr1 (by rfl) GC.mg GC.kp GC.bd .nil pass0 (pa_cons (pv 0) (pa_cons (pv 3) pa_nil))) (pe_op op_mul pe_int (pv 3))) (pa_cons (pv 1) (pa_cons pe_int pa_nil)))))
      (pss_cons (ps_set (i := 1) scLaw.nd rfl (Or.inl rfl) (pe_call GF.ok hr4 (by rfl) GF.mg GF.kp GF.bd .nil pass0 (pa_cons (pv 1) (pa_cons (pe_op op_add (pv 3) pe_int) (pa_cons (pv 4) pa_nil)))))
      (pss_one (ps_expr (pe_bm PySem.F.plainAttrs_list PySem.F.slot_list_append PySem.F.type_list_append mt_append (pv 2) (pa_cons (pe_call GR.ok hr1 (by rfl) GR.mg GR.kp GR.bd .nil pass0 (pa_cons (pe_op op_add (pv 3) pe_int) (pa_cons (pv 4) pa_nil))) pa_nil)))))))
      (pss_cons (ps_if (pt_cmpR (op_neSA (u80_of hr)) (pe_call GO.ok hr7 (by rfl) GO.mg GO.kp GO.bd .nil pass0 (pa_cons (pe_call PL.ok hr6 (by rfl) PL.mg PL.kp PL.bd .nil pass0 (pa_cons (pv 2) pa_nil)) pa_nil)) (pv 1) (nomark _))
      (pss_one (ps_ret pe_bl)) pss_nil)
      (pss_cons (ps_for PassesOwn.never rfl (pi_range1 (by rfl) B.range (pa_cons pe_int pa_nil)) (pg_name (i := 3) scLaw.nd rfl (Or.inl rfl))
      (pss_cons (ps_set (i := 2) scLaw.nd rfl (Or.inl rfl) (pe_call PF.ok hr7 (by rfl) PF.mg PF.kp PF.bd .nil pass0 (pa_cons (pv 2) (pa_cons (pe_op op_add (pe_op op_mul (pe_call GC.ok hr1 (by rfl) GC.mg GC.kp GC.bd .nil pass0 (pa_cons (pv 0) (pa_cons (pv 3) pa_nil))) pe_int) (pe_op op_mul pe_int (pv 3))) pa_nil))))
      (pss_one (ps_if (pt_cmpR (op_neSA (u80_of hr)) (pe_call GO.ok hr7 (by rfl) GO.mg GO.kp GO.bd .nil pass0 (pa_cons (pv 2) pa_nil)) (pv 1) (nomark _))
      (pss_one (ps_ret pe_bl)) pss_nil))))
      (pss_one (ps_ret (pe_cmpR (op_eqSA (u80_of hr)) (pe_call GO.ok hr7 (by rfl) GO.mg GO.kp GO.bd .nil pass0 (pa_cons (pe_call PL.ok hr6 (by rfl) PL.mg PL.kp PL.bd .nil pass0 (pa_cons (pv 2) pa_nil)) pa_nil)) (pv 1) (nomark _))))))))), ?_⟩
    refine ⟨rfl, fun w H1 s1 W1 => ?_⟩
    have hs1 := s1.seq hsc
    clear s1 hsc
    refine ⟨by show 0 ≤ sizeLine; decide, fun R hR => ?_⟩
    have hs3 : SqL K (upd H1 R (.lst [])) sc (ns.map V.int) := (same_new hR).seq hs1
    refine ⟨_, rfl, sc, _, rfl, .inl hs3, _, rfl, sc, ns, 12, 30, rfl, hs3, fun m hm => ⟨_, _, rfl, ?_⟩⟩
    have hm40 : m ≤ 30 := by omega
    have hl : (ns.map V.int).length = ns.length := List.length_map _
    obtain ⟨cnt, hc, hcl⟩ : ∃ c : Int, (if m < (((ns.map V.int).length : Nat) : Int) then m else (((ns.map V.int).length : Nat) : Int)) = c ∧ c ≤ 30 ∧ -100 ≤ c := by
      refine ⟨_, rfl, ?_⟩
      split <;> omega
    rw [hc]
    refine ⟨cnt, rfl, by omega, by omega, ?_⟩
    refine for_range (lo := 0) (n := cnt.toNat) (fun i σ' G => ∃ (v3 v4 : Option V) (w : Addr) (st : Sta) (ts : List Addr) (rs : List Rc), σ' = [some (.ref sc), some (.ref w), some (.ref R), v3, v4] ∧ Same H1 G ∧ G R = some (.lst (ts.map V.ref)) ∧ StAt K G w st ∧ Paired (RecAt K G) ts rs ∧ rs.length = i ∧ st = foldR rs ∧ st.o = (i : Int) ∧ LI i st ∧ AscR rs ∧ (∀ n, WfN n rs) ∧ ∀ r ∈ rs, r.o ≤ st.o ∧ RGood r ∧ bdOk r.b)
      ⟨none, none, w, emptyS, [], [], rfl, same_new hR, upd_same, W1.same (same_new hR), .nil, rfl, rfl, rfl, li_empty, .nil, fun _ => wf_nil, fun _ h => nomatch h⟩ ?_ ?_
    · rintro i σ' G hi ⟨v3, v4, w, st, ts, rs, rfl, sm, hGR, W, pr, rl, ef, eo, I, asc, wf, al⟩
      have cmul : CMul 7 (0 + (i : Int)) := .inl ⟨by decide, by decide⟩
      have i40 : i ≤ 30 := by omega
      have sni : SnIn st := by rw [ef]; exact empty_in.fold rs
      refine ⟨_, rfl, _, rfl, sc, ns, i, (show [V.ref sc, V.int (0 + (i : Int))] = [V.ref sc, V.int (i : Int)] by rw [Int.zero_add]), sm.seq hs1, ?_⟩
      generalize ns.getD i 0 = cl
      refine ⟨_, rfl, _, _, rfl, rfl, cmul, _, _, rfl, rfl, _, rfl, _, w, st, 3, rfl, W, I.g.mono (by omega), I.num, sni, I.told (by omega), by decide, by decide, fun v G2 t2 hv => ?_⟩
      obtain ⟨stp, h, b, rfl, h0, h4, bn, bm, sok, hst⟩ := hv
      have W2' := W.same t2
      have bk := bd_ok bn
      have od1 : st.o < (i : Int) + 1 := by omega
      have od2 : (i : Int) + 1 ≤ st.o + 2 := by omega
      have gd : RGood ⟨(i : Int) + 1, h, sessN st h b, cntN st h b, b⟩ := step_good I (by omega) bn bm
      have I' : LI (i + 1) (afterR st ⟨(i : Int) + 1, h, sessN st h b, cntN st h b, b⟩) := I.record (by omega) h0 h4 od1 od2 bn bm
      refine ⟨_, rfl, _, rfl, _, _, rfl, rfl, _, rfl, w, stp, st, ⟨(i : Int) + 1, h, sessN st h b, cntN st h b, b⟩, ?_, W2', I.g.mono (by omega), I.srt, hst _, bk, fun D2 G5 t5 hD2 => ?_⟩
      · show [V.ref w, V.int (0 + (i : Int) + 1), V.ref stp] = _
        rw [Int.zero_add]
      rw [← law_eq] at hD2
      have hR5 := (t2.trans t5) _ _ hGR
      refine ⟨_, rfl, .inl ⟨rfl, _, SqL.of hR5⟩, _, rfl, _, _, rfl, rfl, _, rfl, stp, ⟨(i : Int) + 1, h, sessN st h b, cntN st h b, b⟩, ?_, StepAt.same (hst _) t5, fun tt G6 t6 hrec2 => ?_⟩
      · show [V.int (0 + (i : Int) + 1), V.ref stp] = _
        rw [Int.zero_add]
      have hR6 := t6 _ _ hR5
      have lt : ts.length ≤ 40 := by rw [Paired.length pr]; omega
      refine ⟨R, _, _, rfl, rfl, hR6, small1000 (by rw [List.length_map]; omega), ?_⟩
      have kp : Kp R G6 (upd G6 R (.lst (ts.map V.ref ++ [V.ref tt]))) := fun x o n e => by rw [upd_ne n]; exact e
      have eR : (upd G6 R (.lst (ts.map V.ref ++ [V.ref tt]))) R = some (.lst ((ts ++ [tt]).map V.ref)) := by rw [List.map_append]; exact upd_same
      have hl : ∃ xs, G6 R = some (.lst xs) := ⟨_, hR6⟩
      have sAll := t2.trans (t5.trans t6)
      generalize upd G6 R (.lst (ts.map V.ref ++ [V.ref tt])) = G7 at kp eR
      have e2 : (afterR st ⟨(i : Int) + 1, h, sessN st h b, cntN st h b, b⟩).o = (i : Int) + 1 := by rw [law_eq]; rfl
      have asc' : AscR (rs ++ [⟨(i : Int) + 1, h, sessN st h b, cntN st h b, b⟩]) := asc_app asc fun x hx => by have := (al x hx).1; show x.o < (i : Int) + 1; omega
      refine ⟨some (.int (0 + (i : Int))), some (.ref stp), D2, afterR st ⟨(i : Int) + 1, h, sessN st h b, cntN st h b, b⟩, ts ++ [tt], rs ++ [⟨(i : Int) + 1, h, sessN st h b, cntN st h b, b⟩], rfl, fun x o e => ?_, eR, (hD2.same t6).kp kp hl I'.flat, ?_, by rw [List.length_append, rl]; rfl, ?_, by rw [e2]; omega, I', asc', ?_, ?_⟩
      · exact kp _ _ (fun z => by rw [z, hR] at e; cases e) (sAll _ _ (sm _ _ e))
      · exact paired_append (pairs_mem (fun p r hr z => (z.same sAll).tk (al r hr).2.1 (kp.tk hl)) pr) (.cons (hrec2.tk gd (kp.tk hl)) .nil)
      · rw [ef]; unfold foldR; rw [List.foldl_append]; rfl
      · exact fun n => wf_app (wf n) fun hn => by rw [← ef]; exact sok n hn
      · intro r hr
        rw [e2]
        rcases List.mem_append.mp hr with hr | hr
        · have := al r hr; exact ⟨by omega, this.2⟩
        · rw [List.mem_singleton.mp hr]; exact ⟨Int.le_refl _, gd, bk⟩
    · rintro σ' G ⟨v3, v4, w, st, ts, rs, rfl, sm, hGR, W, pr, rl, ef, eo, I, asc, wf, al⟩
      have rl40 : rs.length ≤ 40 := by omega
      have T0 : Two rs rs := ⟨Same2.refl rs, List.Sublist.refl _, asc, wf⟩
      refine ⟨_, rfl, R, ts, rs, rfl, SqL.of hGR, pr, ⟨by omega, fun r hr => (al r hr).2.1, asc_inj asc⟩, fun l ts1 rs1 G1 u1 _ hl1 pr1 asc1 mem1 len1 => ?_⟩
      have ers : rs1 = rs := asc_uniq asc1 asc mem1
      rw [ers] at pr1
      have T1 : Two rs (progL rs) := T0.live
      have lp : (progL rs).length ≤ 200 := by have := T1.sub.length_le; omega
      refine ⟨l, ts1, progL rs, rfl, SqL.of hl1, pr1, lp, fun r hr => (al r (T1.sub.subset hr)).2, asc_inj T1.asc, fun D rs2 G2 u2 asc2 mem2 hD => ?_⟩
      rw [asc_uniq asc2 T1.asc mem2] at hD
      have E1 : EqSt (foldR (progL rs)) (foldR rs) := T1.eq asc wf
      have u12 := u1.trans u2
      rw [ef] at W I
      refine ⟨_, rfl, ne_teA hD (W.same u12) E1 I.mok srt_fold srt_fold ⟨_, rfl, chooseF rfl ?_⟩⟩
      have hsG := u12.seq (sm.seq hs1)
      have hRG := u12 _ _ hGR
      have WG := W.same u12
      have prG := Paired.imp2 (fun _ _ z => RecAt.same z u12) pr
      clear hD pr1 hl1 u1 u2 u12
      refine ⟨3, rfl, by decide, by decide, ?_⟩
      refine for_range (lo := 0) (n := 3) (fun i σ' G => ∃ (v3 : Option V) (R' : Addr) (ts' : List Addr) (B : List Rc), σ' = [some (.ref sc), some (.ref w), some (.ref R'), v3, v4] ∧ Same G2 G ∧ G R' = some (.lst (ts'.map V.ref)) ∧ Paired (RecAt K G) ts' B ∧ Two rs B)
        ⟨v3, R, ts, rs, rfl, fun _ _ e => e, hRG, prG, T0⟩ ?_ ?_
      · rintro i σ' G3 hi ⟨v3', R', ts', B, rfl, s3, hB, pB, T⟩
        have lB : B.length ≤ 40 := by have := T.sub.length_le; omega
        refine ⟨_, rfl, _, rfl, _, rfl, sc, ns, i, (show [V.ref sc, V.int (0 + (i : Int))] = [V.ref sc, V.int (i : Int)] by rw [Int.zero_add]), s3.seq hsG, ?_⟩
        refine ⟨_, _, rfl, rfl, .inr ⟨by decide, by decide⟩, _, rfl, _, _, rfl, rfl, .inl ⟨by decide, by decide⟩, _, _, rfl, rfl, R', ts', B, _, rfl, hB, pB, T.asc, fun r hr => (al r (T.sub.subset hr)).2.1, lB, fun l2 ts2 C G4 u4 hl2 p2 kC => ?_⟩
        have TC : Two rs C := T.step kC
        have lC : C.length ≤ 200 := by have := TC.sub.length_le; omega
        refine ⟨_, rfl, l2, ts2, C, rfl, SqL.of hl2, p2, lC, fun r hr => (al r (TC.sub.subset hr)).2, asc_inj TC.asc, fun D3 rs3 G5 u5 asc3 mem3 hD3 => ?_⟩
        rw [asc_uniq asc3 TC.asc mem3] at hD3
        have s5 := s3.trans (u4.trans u5)
        refine ⟨_, rfl, ne_teA hD3 (WG.same s5) (TC.eq asc wf) I.mok srt_fold srt_fold ⟨_, rfl, chooseF rfl ?_⟩⟩
        exact ⟨_, l2, ts2, C, rfl, s5, u5 _ _ hl2, Paired.imp2 (fun _ _ z => RecAt.same z u5) p2, TC⟩
      · rintro σ' G3 ⟨v3', R', ts', B, rfl, s3, hB, pB, T⟩
        have lB : B.length ≤ 40 := by have := T.sub.length_le; omega
        refine ⟨_, rfl, R', ts', B, rfl, SqL.of hB, pB, ⟨by omega, fun r hr => (al r (T.sub.subset hr)).2.1, asc_inj T.asc⟩, fun l4 ts4 rs4 G4 u4 _ hl4 pr4 asc4 mem4 _ => ?_⟩
        rw [asc_uniq asc4 T.asc mem4] at pr4
        have TL : Two rs (progL B) := T.live
        have lL : (progL B).length ≤ 200 := by have := TL.sub.length_le; omega
        refine ⟨l4, ts4, progL B, rfl, SqL.of hl4, pr4, lL, fun r hr => (al r (TL.sub.subset hr)).2, asc_inj TL.asc, fun D5 rs5 G5 u5 asc5 mem5 hD5 => ?_⟩
        rw [asc_uniq asc5 TL.asc mem5] at hD5
        exact ⟨_, rfl, eq_teA hD5 (WG.same (s3.trans (u4.trans u5))) (TL.eq asc wf) I.mok srt_fold srt_fold (q _)⟩
end
end Sg

set_option Elab.async false
set_option linter.all false
set_option maxRecDepth 100000
set_option maxHeartbeats 8000000
namespace Sg
open PySem PySem.Spec PyProof.Rows L2
theorem all_mk {l : PySem.W.OpenLaw} {w : World} {K : PySem.W.Frag} {h : Heap} {mg : Str → Option Value} {fa C fMI fMT fMA fML fMS fMB fMH fME aHT fLi fLo fVi fLF fWK fWO fWH fFi fAn fEf fOn fEk fNs fAp fFo fAe fAw fWs fWe fCh fLC fLD fLM fLN fLU fLW fLS fLK fLP fLA fLR fLT fLZ fLJ fLQ fL aNE aNF : Addr} (X : K.In h) (G : h.Ns mainGlobals mg) (hfa : mg "law" = some (.ref fa))
    {odMI anMI odMT anMT odMA anMA odML anML odMS anMS odMB anMB odMH anMH odME anME dHT odLi anLi odLo anLo odVi anVi odLF anLF odWK anWK odWO anWO odWH anWH odFi anFi odAn anAn odEf anEf odOn anOn odEk anEk odNs anNs odAp anAp odFo anFo odAe anAe odAw anAw odWs anWs odWe anWe odCh anCh odLC anLC odLD anLD odLM anLM odLN anLN odLU anLU odLW anLW odLS anLS odLK anLK odLP anLP odLA anLA odLR anLR odLT anLT odLZ anLZ odLJ anLJ odLQ anLQ odL anL dNF dNE : Option Addr} {slMI slMT slMA slML slMS slMB slMH slME sHT slLi slLo slVi slLF slWK slWO slWH slFi slAn slEf slOn slEk slNs slAp slFo slAe slAw slWs slWe slCh slLC slLD slLM slLN slLU slLW slLS slLK slLP slLA slLR slLT slLZ slLJ slLQ slL sNF sNE : Array (Option Value)} {ocMI kVMI dcMI pmMI cdMI ctMI ocMT kVMT dcMT pmMT cdMT ctMT ocMA kVMA dcMA pmMA cdMA ctMA ocML kVML dcML pmML cdML ctML ocMS kVMS dcMS pmMS cdMS ctMS ocMB kVMB dcMB pmMB cdMB ctMB ocMH kVMH dcMH pmMH cdMH ctMH ocME kVME dcME pmME cdME ctME ocLi kVLi dcLi pmLi cdLi ctLi ocLo kVLo dcLo pmLo cdLo ctLo ocVi kVVi dcVi pmVi cdVi ctVi ocLF kVLF dcLF pmLF cdLF ctLF ocWK kVWK dcWK pmWK cdWK ctWK ocWO kVWO dcWO pmWO cdWO ctWO ocWH kVWH dcWH pmWH cdWH ctWH ocFi kVFi dcFi pmFi cdFi ctFi ocAn kVAn dcAn pmAn cdAn ctAn ocEf kVEf dcEf pmEf cdEf ctEf ocOn kVOn dcOn pmOn cdOn ctOn ocEk kVEk dcEk pmEk cdEk ctEk ocNs kVNs dcNs pmNs cdNs ctNs ocAp kVAp dcAp pmAp cdAp ctAp ocFo kVFo dcFo pmFo cdFo ctFo ocAe kVAe dcAe pmAe cdAe ctAe ocAw kVAw dcAw pmAw cdAw ctAw ocWs kVWs dcWs pmWs cdWs ctWs ocWe kVWe dcWe pmWe cdWe ctWe ocCh kVCh dcCh pmCh cdCh ctCh ocLC kVLC dcLC pmLC cdLC ctLC ocLD kVLD dcLD pmLD cdLD ctLD ocLM kVLM dcLM pmLM cdLM ctLM ocLN kVLN dcLN pmLN cdLN ctLN ocLU kVLU dcLU pmLU cdLU ctLU ocLW kVLW dcLW pmLW cdLW ctLW ocLS kVLS dcLS pmLS cdLS ctLS ocLK kVLK dcLK pmLK cdLK ctLK ocLP kVLP dcLP pmLP cdLP ctLP ocLA kVLA dcLA pmLA cdLA ctLA ocLR kVLR dcLR pmLR cdLR ctLR ocLT kVLT dcLT pmLT cdLT ctLT ocLZ kVLZ dcLZ pmLZ cdLZ ctLZ ocLJ kVLJ dcLJ pmLJ cdLJ ctLJ ocLQ kVLQ dcLQ pmLQ cdLQ ctLQ ocL kVL dcL pmL cdL ctL : Value} {uHT_0 uHT_1 tHEAD : Tok} {nHT nNF nNE : Nat} 
    (aC : PySem.W.nsIn K mainGlobals "Rows" = some (some (.ref C)))
    (pg : PySem.W.plainGet K C Str.empty = true)
    (hd : PySem.W.hasDictIn K C = true)
    (po : PySem.W.plainOver K C = true)
    (sa : PySem.W.findIn K (.ref C) "__setattr__" = some (some (.builtin "object.__setattr__")))
    (mk : PySem.W.makesIn K C = true)
    (kc : PySem.W.keepIn K (.ref C) = true)
    (n1 : PySem.W.findIn K (.ref C) "ordered" = some none)
    (n2 : PySem.W.findIn K (.ref C) "present" = some none)
    (n3 : PySem.W.findIn K (.ref C) "_by_topic" = some none)
    (n4 : PySem.W.findIn K (.ref C) "_begins" = some none)
    (n5 : PySem.W.findIn K (.ref C) "_snapshots" = some none)
    (aMI : PySem.W.findIn K (.ref C) "__init__" = some (some (.ref fMI)))
    (iMI : PySem.W.isFn K (.ref fMI) = true)
    (lMI : K.lookup fMI = some ⟨ocMI, odMI, .func (PySem.W.fnOf "__init__" "Rows.__init__" (defArgs (cR 0)) (defBody (cR 0)) (defScope (cR 0)) .none kVMI dcMI pmMI anMI cdMI ctMI), slMI⟩)
    (cMI : PySem.W.codeIn K cdMI "Rows.__init__" = true)
    (kMI : PySem.W.keepIn K (.ref fMI) = true)
    (aMT : PySem.W.findIn K (.ref C) "topics" = some (some (.ref fMT)))
    (iMT : PySem.W.isFn K (.ref fMT) = true)
    (lMT : K.lookup fMT = some ⟨ocMT, odMT, .func (PySem.W.fnOf "topics" "Rows.topics" (defArgs (cR 1)) (defBody (cR 1)) (defScope (cR 1)) .none kVMT dcMT pmMT anMT cdMT ctMT), slMT⟩)
    (cMT : PySem.W.codeIn K cdMT "Rows.topics" = true)
    (kMT : PySem.W.keepIn K (.ref fMT) = true)
    (aMA : PySem.W.findIn K (.ref C) "all_of" = some (some (.ref fMA)))
    (iMA : PySem.W.isFn K (.ref fMA) = true)
    (lMA : K.lookup fMA = some ⟨ocMA, odMA, .func (PySem.W.fnOf "all_of" "Rows.all_of" (defArgs (cR 2)) (defBody (cR 2)) (defScope (cR 2)) .none kVMA dcMA pmMA anMA cdMA ctMA), slMA⟩)
    (cMA : PySem.W.codeIn K cdMA "Rows.all_of" = true)
    (kMA : PySem.W.keepIn K (.ref fMA) = true)
    (aML : PySem.W.findIn K (.ref C) "last_shown" = some (some (.ref fML)))
    (iML : PySem.W.isFn K (.ref fML) = true)
    (lML : K.lookup fML = some ⟨ocML, odML, .func (PySem.W.fnOf "last_shown" "Rows.last_shown" (defArgs (cR 3)) (defBody (cR 3)) (defScope (cR 3)) .none kVML dcML pmML anML cdML ctML), slML⟩)
    (cML : PySem.W.codeIn K cdML "Rows.last_shown" = true)
    (kML : PySem.W.keepIn K (.ref fML) = true)
    (aMS : PySem.W.findIn K (.ref C) "snapshots" = some (some (.ref fMS)))
    (iMS : PySem.W.isFn K (.ref fMS) = true)
    (lMS : K.lookup fMS = some ⟨ocMS, odMS, .func (PySem.W.fnOf "snapshots" "Rows.snapshots" (defArgs (cR 4)) (defBody (cR 4)) (defScope (cR 4)) .none kVMS dcMS pmMS anMS cdMS ctMS), slMS⟩)
    (cMS : PySem.W.codeIn K cdMS "Rows.snapshots" = true)
    (kMS : PySem.W.keepIn K (.ref fMS) = true)
    (aMB : PySem.W.findIn K (.ref C) "begins" = some (some (.ref fMB)))
    (iMB : PySem.W.isFn K (.ref fMB) = true)
    (lMB : K.lookup fMB = some ⟨ocMB, odMB, .func (PySem.W.fnOf "begins" "Rows.begins" (defArgs (cR 5)) (defBody (cR 5)) (defScope (cR 5)) .none kVMB dcMB pmMB anMB cdMB ctMB), slMB⟩)
    (cMB : PySem.W.codeIn K cdMB "Rows.begins" = true)
    (kMB : PySem.W.keepIn K (.ref fMB) = true)
    (aMH : PySem.W.findIn K (.ref C) "_is_hidden" = some (some (.ref fMH)))
    (iMH : PySem.W.isFn K (.ref fMH) = true)
    (lMH : K.lookup fMH = some ⟨ocMH, odMH, .func (PySem.W.fnOf "_is_hidden" "Rows._is_hidden" (defArgs (cR 6)) (defBody (cR 6)) (defScope (cR 6)) .none kVMH dcMH pmMH anMH cdMH ctMH), slMH⟩)
    (cMH : PySem.W.codeIn K cdMH "Rows._is_hidden" = true)
    (kMH : PySem.W.keepIn K (.ref fMH) = true)
    (aME : PySem.W.findIn K (.ref C) "_snapshot_exists" = some (some (.ref fME)))
    (iME : PySem.W.isFn K (.ref fME) = true)
    (lME : K.lookup fME = some ⟨ocME, odME, .func (PySem.W.fnOf "_snapshot_exists" "Rows._snapshot_exists" (defArgs (cR 7)) (defBody (cR 7)) (defScope (cR 7)) .none kVME dcME pmME anME cdME ctME), slME⟩)
    (cME : PySem.W.codeIn K cdME "Rows._snapshot_exists" = true)
    (kME : PySem.W.keepIn K (.ref fME) = true)
    (gHOST_TOPICS : PySem.W.nsIn K mainGlobals "HOST_TOPICS" = some (some (.ref aHT)))
    (lHT : K.lookup aHT = some ⟨.type "tuple", dHT, .seq #[.str "host" uHT_0, .str "told" uHT_1] nHT, sHT⟩)
    (aLi : PySem.W.nsIn K mainGlobals "live_records" = some (some (.ref fLi)))
    (lLi : K.lookup fLi = some ⟨ocLi, odLi, .func (PySem.W.fnOf "live_records" "live_records" (defArgs sLiveRecs) (defBody sLiveRecs) (defScope sLiveRecs) .none kVLi dcLi pmLi anLi cdLi ctLi), slLi⟩)
    (cLi : PySem.W.codeIn K cdLi "live_records" = true)
    (kLi : PySem.W.keepIn K (.ref fLi) = true)
    (aLo : PySem.W.nsIn K mainGlobals "_live_orders" = some (some (.ref fLo)))
    (lLo : K.lookup fLo = some ⟨ocLo, odLo, .func (PySem.W.fnOf "_live_orders" "_live_orders" (defArgs sLiveOrd) (defBody sLiveOrd) (defScope sLiveOrd) .none kVLo dcLo pmLo anLo cdLo ctLo), slLo⟩)
    (cLo : PySem.W.codeIn K cdLo "_live_orders" = true)
    (kLo : PySem.W.keepIn K (.ref fLo) = true)
    (aVi : PySem.W.nsIn K mainGlobals "_views" = some (some (.ref fVi)))
    (lVi : K.lookup fVi = some ⟨ocVi, odVi, .func (PySem.W.fnOf "_views" "_views" (defArgs sViews) (defBody sViews) (defScope sViews) .none kVVi dcVi pmVi anVi cdVi ctVi), slVi⟩)
    (cVi : PySem.W.codeIn K cdVi "_views" = true)
    (kVi : PySem.W.keepIn K (.ref fVi) = true)
    (aLF : PySem.W.nsIn K mainGlobals "_law_left" = some (some (.ref fLF)))
    (lLF : K.lookup fLF = some ⟨ocLF, odLF, .func (PySem.W.fnOf "_law_left" "_law_left" (defArgs sLLeft) (defBody sLLeft) (defScope sLLeft) .none kVLF dcLF pmLF anLF cdLF ctLF), slLF⟩)
    (cLF : PySem.W.codeIn K cdLF "_law_left" = true)
    (kLF : PySem.W.keepIn K (.ref fLF) = true)
    (aWK : PySem.W.nsIn K mainGlobals "with_key" = some (some (.ref fWK)))
    (lWK : K.lookup fWK = some ⟨ocWK, odWK, .func (PySem.W.fnOf "with_key" "with_key" (defArgs sWithKey) (defBody sWithKey) (defScope sWithKey) .none kVWK dcWK pmWK anWK cdWK ctWK), slWK⟩)
    (cWK : PySem.W.codeIn K cdWK "with_key" = true)
    (kWK : PySem.W.keepIn K (.ref fWK) = true)
    (aWO : PySem.W.nsIn K mainGlobals "without_key" = some (some (.ref fWO)))
    (lWO : K.lookup fWO = some ⟨ocWO, odWO, .func (PySem.W.fnOf "without_key" "without_key" (defArgs sWithoutKey) (defBody sWithoutKey) (defScope sWithoutKey) .none kVWO dcWO pmWO anWO cdWO ctWO), slWO⟩)
    (cWO : PySem.W.codeIn K cdWO "without_key" = true)
    (kWO : PySem.W.keepIn K (.ref fWO) = true)
    (aWH : PySem.W.nsIn K mainGlobals "with_holder" = some (some (.ref fWH)))
    (lWH : K.lookup fWH = some ⟨ocWH, odWH, .func (PySem.W.fnOf "with_holder" "with_holder" (defArgs sWithHolder) (defBody sWithHolder) (defScope sWithHolder) .none kVWH dcWH pmWH anWH cdWH ctWH), slWH⟩)
    (cWH : PySem.W.codeIn K cdWH "with_holder" = true)
    (kWH : PySem.W.keepIn K (.ref fWH) = true)
    (aFi : PySem.W.nsIn K mainGlobals "fields_of" = some (some (.ref fFi)))
    (lFi : K.lookup fFi = some ⟨ocFi, odFi, .func (PySem.W.fnOf "fields_of" "fields_of" (defArgs sFieldsOf) (defBody sFieldsOf) (defScope sFieldsOf) .none kVFi dcFi pmFi anFi cdFi ctFi), slFi⟩)
    (cFi : PySem.W.codeIn K cdFi "fields_of" = true)
    (kFi : PySem.W.keepIn K (.ref fFi) = true)
    (aAn : PySem.W.nsIn K mainGlobals "answer_of" = some (some (.ref fAn)))
    (lAn : K.lookup fAn = some ⟨ocAn, odAn, .func (PySem.W.fnOf "answer_of" "answer_of" (defArgs sAnswerOf) (defBody sAnswerOf) (defScope sAnswerOf) .none kVAn dcAn pmAn anAn cdAn ctAn), slAn⟩)
    (cAn : PySem.W.codeIn K cdAn "answer_of" = true)
    (kAn : PySem.W.keepIn K (.ref fAn) = true)
    (aEf : PySem.W.nsIn K mainGlobals "effects" = some (some (.ref fEf)))
    (lEf : K.lookup fEf = some ⟨ocEf, odEf, .func (PySem.W.fnOf "effects" "effects" (defArgs sEffects) (defBody sEffects) (defScope sEffects) .none kVEf dcEf pmEf anEf cdEf ctEf), slEf⟩)
    (cEf : PySem.W.codeIn K cdEf "effects" = true)
    (kEf : PySem.W.keepIn K (.ref fEf) = true)
    (aOn : PySem.W.nsIn K mainGlobals "each_once" = some (some (.ref fOn)))
    (lOn : K.lookup fOn = some ⟨ocOn, odOn, .func (PySem.W.fnOf "each_once" "each_once" (defArgs sOnce) (defBody sOnce) (defScope sOnce) .none kVOn dcOn pmOn anOn cdOn ctOn), slOn⟩)
    (cOn : PySem.W.codeIn K cdOn "each_once" = true)
    (kOn : PySem.W.keepIn K (.ref fOn) = true)
    (aEk : PySem.W.nsIn K mainGlobals "_effects_of_kind" = some (some (.ref fEk)))
    (lEk : K.lookup fEk = some ⟨ocEk, odEk, .func (PySem.W.fnOf "_effects_of_kind" "_effects_of_kind" (defArgs sEffKind) (defBody sEffKind) (defScope sEffKind) .none kVEk dcEk pmEk anEk cdEk ctEk), slEk⟩)
    (cEk : PySem.W.codeIn K cdEk "_effects_of_kind" = true)
    (kEk : PySem.W.keepIn K (.ref fEk) = true)
    (aNs : PySem.W.nsIn K mainGlobals "new_state" = some (some (.ref fNs)))
    (lNs : K.lookup fNs = some ⟨ocNs, odNs, .func (PySem.W.fnOf "new_state" "new_state" (defArgs sNewState) (defBody sNewState) (defScope sNewState) .none kVNs dcNs pmNs anNs cdNs ctNs), slNs⟩)
    (cNs : PySem.W.codeIn K cdNs "new_state" = true)
    (kNs : PySem.W.keepIn K (.ref fNs) = true)
    (aAp : PySem.W.nsIn K mainGlobals "apply_record" = some (some (.ref fAp)))
    (lAp : K.lookup fAp = some ⟨ocAp, odAp, .func (PySem.W.fnOf "apply_record" "apply_record" (defArgs sApply) (defBody sApply) (defScope sApply) .none kVAp dcAp pmAp anAp cdAp ctAp), slAp⟩)
    (cAp : PySem.W.codeIn K cdAp "apply_record" = true)
    (kAp : PySem.W.keepIn K (.ref fAp) = true)
    (aFo : PySem.W.nsIn K mainGlobals "fold" = some (some (.ref fFo)))
    (lFo : K.lookup fFo = some ⟨ocFo, odFo, .func (PySem.W.fnOf "fold" "fold" (defArgs sFold) (defBody sFold) (defScope sFold) .none kVFo dcFo pmFo anFo cdFo ctFo), slFo⟩)
    (cFo : PySem.W.codeIn K cdFo "fold" = true)
    (kFo : PySem.W.keepIn K (.ref fFo) = true)
    (aAe : PySem.W.nsIn K mainGlobals "_after_effect" = some (some (.ref fAe)))
    (lAe : K.lookup fAe = some ⟨ocAe, odAe, .func (PySem.W.fnOf "_after_effect" "_after_effect" (defArgs sAfterEff) (defBody sAfterEff) (defScope sAfterEff) .none kVAe dcAe pmAe anAe cdAe ctAe), slAe⟩)
    (cAe : PySem.W.codeIn K cdAe "_after_effect" = true)
    (kAe : PySem.W.keepIn K (.ref fAe) = true)
    (aAw : PySem.W.nsIn K mainGlobals "_after_effect_within" = some (some (.ref fAw)))
    (lAw : K.lookup fAw = some ⟨ocAw, odAw, .func (PySem.W.fnOf "_after_effect_within" "_after_effect_within" (defArgs sAfterWithin) (defBody sAfterWithin) (defScope sAfterWithin) .none kVAw dcAw pmAw anAw cdAw ctAw), slAw⟩)
    (cAw : PySem.W.codeIn K cdAw "_after_effect_within" = true)
    (kAw : PySem.W.keepIn K (.ref fAw) = true)
    (aWs : PySem.W.nsIn K mainGlobals "_without_space" = some (some (.ref fWs)))
    (lWs : K.lookup fWs = some ⟨ocWs, odWs, .func (PySem.W.fnOf "_without_space" "_without_space" (defArgs sWithoutSpace) (defBody sWithoutSpace) (defScope sWithoutSpace) .none kVWs dcWs pmWs anWs cdWs ctWs), slWs⟩)
    (cWs : PySem.W.codeIn K cdWs "_without_space" = true)
    (kWs : PySem.W.keepIn K (.ref fWs) = true)
    (aWe : PySem.W.nsIn K mainGlobals "_with_entry" = some (some (.ref fWe)))
    (lWe : K.lookup fWe = some ⟨ocWe, odWe, .func (PySem.W.fnOf "_with_entry" "_with_entry" (defArgs sWithEntry) (defBody sWithEntry) (defScope sWithEntry) .none kVWe dcWe pmWe anWe cdWe ctWe), slWe⟩)
    (cWe : PySem.W.codeIn K cdWe "_with_entry" = true)
    (kWe : PySem.W.keepIn K (.ref fWe) = true)
    (aCh : PySem.W.nsIn K mainGlobals "_changed" = some (some (.ref fCh)))
    (lCh : K.lookup fCh = some ⟨ocCh, odCh, .func (PySem.W.fnOf "_changed" "_changed" (defArgs sChanged) (defBody sChanged) (defScope sChanged) .none kVCh dcCh pmCh anCh cdCh ctCh), slCh⟩)
    (cCh : PySem.W.codeIn K cdCh "_changed" = true)
    (kCh : PySem.W.keepIn K (.ref fCh) = true)
    (aLC : PySem.W.nsIn K mainGlobals "_law_cell" = some (some (.ref fLC)))
    (lLC : K.lookup fLC = some ⟨ocLC, odLC, .func (PySem.W.fnOf "_law_cell" "_law_cell" (defArgs sLCell) (defBody sLCell) (defScope sLCell) .none kVLC dcLC pmLC anLC cdLC ctLC), slLC⟩)
    (cLC : PySem.W.codeIn K cdLC "_law_cell" = true)
    (kLC : PySem.W.keepIn K (.ref fLC) = true)
    (aLD : PySem.W.nsIn K mainGlobals "_law_digits" = some (some (.ref fLD)))
    (lLD : K.lookup fLD = some ⟨ocLD, odLD, .func (PySem.W.fnOf "_law_digits" "_law_digits" (defArgs sLDigits) (defBody sLDigits) (defScope sLDigits) .none kVLD dcLD pmLD anLD cdLD ctLD), slLD⟩)
    (cLD : PySem.W.codeIn K cdLD "_law_digits" = true)
    (kLD : PySem.W.keepIn K (.ref fLD) = true)
    (aLM : PySem.W.nsIn K mainGlobals "_law_many" = some (some (.ref fLM)))
    (lLM : K.lookup fLM = some ⟨ocLM, odLM, .func (PySem.W.fnOf "_law_many" "_law_many" (defArgs sLMany) (defBody sLMany) (defScope sLMany) .none kVLM dcLM pmLM anLM cdLM ctLM), slLM⟩)
    (cLM : PySem.W.codeIn K cdLM "_law_many" = true)
    (kLM : PySem.W.keepIn K (.ref fLM) = true)
    (aLN : PySem.W.nsIn K mainGlobals "_law_answer" = some (some (.ref fLN)))
    (lLN : K.lookup fLN = some ⟨ocLN, odLN, .func (PySem.W.fnOf "_law_answer" "_law_answer" (defArgs sLAnswer) (defBody sLAnswer) (defScope sLAnswer) .none kVLN dcLN pmLN anLN cdLN ctLN), slLN⟩)
    (cLN : PySem.W.codeIn K cdLN "_law_answer" = true)
    (kLN : PySem.W.keepIn K (.ref fLN) = true)
    (aLU : PySem.W.nsIn K mainGlobals "_law_without" = some (some (.ref fLU)))
    (lLU : K.lookup fLU = some ⟨ocLU, odLU, .func (PySem.W.fnOf "_law_without" "_law_without" (defArgs sLWithout) (defBody sLWithout) (defScope sLWithout) .none kVLU dcLU pmLU anLU cdLU ctLU), slLU⟩)
    (cLU : PySem.W.codeIn K cdLU "_law_without" = true)
    (kLU : PySem.W.keepIn K (.ref fLU) = true)
    (aLW : PySem.W.nsIn K mainGlobals "_law_with" = some (some (.ref fLW)))
    (lLW : K.lookup fLW = some ⟨ocLW, odLW, .func (PySem.W.fnOf "_law_with" "_law_with" (defArgs sLWith) (defBody sLWith) (defScope sLWith) .none kVLW dcLW pmLW anLW cdLW ctLW), slLW⟩)
    (cLW : PySem.W.codeIn K cdLW "_law_with" = true)
    (kLW : PySem.W.keepIn K (.ref fLW) = true)
    (aLS : PySem.W.nsIn K mainGlobals "_law_start" = some (some (.ref fLS)))
    (lLS : K.lookup fLS = some ⟨ocLS, odLS, .func (PySem.W.fnOf "_law_start" "_law_start" (defArgs sLStart) (defBody sLStart) (defScope sLStart) .none kVLS dcLS pmLS anLS cdLS ctLS), slLS⟩)
    (cLS : PySem.W.codeIn K cdLS "_law_start" = true)
    (kLS : PySem.W.keepIn K (.ref fLS) = true)
    (aLK : PySem.W.nsIn K mainGlobals "_law_key" = some (some (.ref fLK)))
    (lLK : K.lookup fLK = some ⟨ocLK, odLK, .func (PySem.W.fnOf "_law_key" "_law_key" (defArgs sLKey) (defBody sLKey) (defScope sLKey) .none kVLK dcLK pmLK anLK cdLK ctLK), slLK⟩)
    (cLK : PySem.W.codeIn K cdLK "_law_key" = true)
    (kLK : PySem.W.keepIn K (.ref fLK) = true)
    (aLP : PySem.W.nsIn K mainGlobals "_law_space" = some (some (.ref fLP)))
    (lLP : K.lookup fLP = some ⟨ocLP, odLP, .func (PySem.W.fnOf "_law_space" "_law_space" (defArgs sLSpace) (defBody sLSpace) (defScope sLSpace) .none kVLP dcLP pmLP anLP cdLP ctLP), slLP⟩)
    (cLP : PySem.W.codeIn K cdLP "_law_space" = true)
    (kLP : PySem.W.keepIn K (.ref fLP) = true)
    (aLA : PySem.W.nsIn K mainGlobals "_law_after" = some (some (.ref fLA)))
    (lLA : K.lookup fLA = some ⟨ocLA, odLA, .func (PySem.W.fnOf "_law_after" "_law_after" (defArgs sLAfter) (defBody sLAfter) (defScope sLAfter) .none kVLA dcLA pmLA anLA cdLA ctLA), slLA⟩)
    (cLA : PySem.W.codeIn K cdLA "_law_after" = true)
    (kLA : PySem.W.keepIn K (.ref fLA) = true)
    (aLR : PySem.W.nsIn K mainGlobals "_law_sure" = some (some (.ref fLR)))
    (lLR : K.lookup fLR = some ⟨ocLR, odLR, .func (PySem.W.fnOf "_law_sure" "_law_sure" (defArgs sLSure) (defBody sLSure) (defScope sLSure) .none kVLR dcLR pmLR anLR cdLR ctLR), slLR⟩)
    (cLR : PySem.W.codeIn K cdLR "_law_sure" = true)
    (kLR : PySem.W.keepIn K (.ref fLR) = true)
    (aLT : PySem.W.nsIn K mainGlobals "_law_told" = some (some (.ref fLT)))
    (lLT : K.lookup fLT = some ⟨ocLT, odLT, .func (PySem.W.fnOf "_law_told" "_law_told" (defArgs sLTold) (defBody sLTold) (defScope sLTold) .none kVLT dcLT pmLT anLT cdLT ctLT), slLT⟩)
    (cLT : PySem.W.codeIn K cdLT "_law_told" = true)
    (kLT : PySem.W.keepIn K (.ref fLT) = true)
    (aLZ : PySem.W.nsIn K mainGlobals "_law_step" = some (some (.ref fLZ)))
    (lLZ : K.lookup fLZ = some ⟨ocLZ, odLZ, .func (PySem.W.fnOf "_law_step" "_law_step" (defArgs sLStep) (defBody sLStep) (defScope sLStep) .none kVLZ dcLZ pmLZ anLZ cdLZ ctLZ), slLZ⟩)
    (cLZ : PySem.W.codeIn K cdLZ "_law_step" = true)
    (kLZ : PySem.W.keepIn K (.ref fLZ) = true)
    (aLJ : PySem.W.nsIn K mainGlobals "_law_named" = some (some (.ref fLJ)))
    (lLJ : K.lookup fLJ = some ⟨ocLJ, odLJ, .func (PySem.W.fnOf "_law_named" "_law_named" (defArgs sLNamed) (defBody sLNamed) (defScope sLNamed) .none kVLJ dcLJ pmLJ anLJ cdLJ ctLJ), slLJ⟩)
    (cLJ : PySem.W.codeIn K cdLJ "_law_named" = true)
    (kLJ : PySem.W.keepIn K (.ref fLJ) = true)
    (aLQ : PySem.W.nsIn K mainGlobals "_law_record" = some (some (.ref fLQ)))
    (lLQ : K.lookup fLQ = some ⟨ocLQ, odLQ, .func (PySem.W.fnOf "_law_record" "_law_record" (defArgs sLRecord) (defBody sLRecord) (defScope sLRecord) .none kVLQ dcLQ pmLQ anLQ cdLQ ctLQ), slLQ⟩)
    (cLQ : PySem.W.codeIn K cdLQ "_law_record" = true)
    (kLQ : PySem.W.keepIn K (.ref fLQ) = true)
    (aL : PySem.W.nsIn K mainGlobals "law" = some (some (.ref fL)))
    (lL : K.lookup fL = some ⟨ocL, odL, .func (PySem.W.fnOf "law" "law" (defArgs sLaw) (defBody sLaw) (defScope sLaw) .none kVL dcL pmL anL cdL ctL), slL⟩)
    (cL : PySem.W.codeIn K cdL "law" = true)
    (kL : PySem.W.keepIn K (.ref fL) = true)
    (gHEAD : PySem.W.nsIn K mainGlobals "HEAD" = some (some (.int 5 tHEAD)))
    (gNO_FENCE : PySem.W.nsIn K mainGlobals "NO_FENCE" = some (some (.ref aNF)))
    (lNF : K.lookup aNF = some ⟨.type "tuple", dNF, .seq #[.ref aNE, .none] nNF, sNF⟩)
    (lNE : K.lookup aNE = some ⟨.type "tuple", dNE, .seq #[] nNE, sNE⟩)
    (z_len : PySem.W.nsIn K mainGlobals "len" = some none)
    (z_abs : PySem.W.nsIn K mainGlobals "abs" = some none)
    (z_int : PySem.W.nsIn K mainGlobals "int" = some none)
    (z_list : PySem.W.nsIn K mainGlobals "list" = some none)
    (z_range : PySem.W.nsIn K mainGlobals "range" = some none)
    (z_tuple : PySem.W.nsIn K mainGlobals "tuple" = some none)
    (z_sorted : PySem.W.nsIn K mainGlobals "sorted" = some none)
    (z_min : PySem.W.nsIn K mainGlobals "min" = some none)
    (z_dict : PySem.W.nsIn K mainGlobals "dict" = some none)
    (z_repr : PySem.W.nsIn K mainGlobals "repr" = some none)
    (z_isinstance : PySem.W.nsIn K mainGlobals "isinstance" = some none)
    (z_any : PySem.W.nsIn K mainGlobals "any" = some none)
    (z_bool : PySem.W.nsIn K mainGlobals "bool" = some none)
    : ∃ fd : FuncData, (∀ (s : Shared) (v : Value), BindsTo s fd ⟨[v], []⟩ [("script", v)]) ∧ ∀ base : Heap, K.In base → base.Ns mainGlobals mg → FnOk l.prog w K mg base CX0 8 fa fd ["script"] (spLaw K) := by
  have e := hfa.symm.trans (PySem.W.mg_of X G aL)
  cases e
  have B : BK mg := ⟨PySem.W.mg_none_of X G z_len, PySem.W.mg_none_of X G z_int, PySem.W.mg_none_of X G z_range, PySem.W.mg_none_of X G z_min, PySem.W.mg_none_of X G z_sorted, PySem.W.mg_none_of X G z_tuple, PySem.W.mg_none_of X G z_dict, PySem.W.mg_none_of X G z_repr, PySem.W.mg_none_of X G z_isinstance⟩
  have LBx : LB mg := ⟨PySem.W.mg_none_of X G z_len, PySem.W.mg_none_of X G z_abs, PySem.W.mg_none_of X G z_int, PySem.W.mg_none_of X G z_list, PySem.W.mg_none_of X G z_tuple, PySem.W.mg_none_of X G z_sorted, PySem.W.mg_none_of X G z_range⟩
  have hHD : ∃ t, mg "HEAD" = some (Value.int 5 t) := ⟨_, PySem.W.mg_of X G gHEAD⟩
  have hNF := PySem.W.mg_of X G gNO_FENCE
  have tNF : ∀ H, FenceAt K H (.ref aNF) [] none := fun H => ⟨aNF, aNE, .non, rfl, (.inr ⟨_, _, _, lNF, rfl, rfl, (show (2 : Nat) ≤ sizeLine by decide), (.cons rfl (.cons rfl .nil))⟩), ⟨[], (.inr ⟨_, _, _, lNE, rfl, rfl, (show (0 : Nat) ≤ sizeLine by decide), .nil⟩), .nil⟩, rfl⟩
  have Bn : BN mg := ⟨PySem.W.mg_none_of X G z_len, PySem.W.mg_none_of X G z_abs, PySem.W.mg_none_of X G z_int, PySem.W.mg_none_of X G z_list, PySem.W.mg_none_of X G z_range, PySem.W.mg_none_of X G z_tuple, PySem.W.mg_none_of X G z_sorted, PySem.W.mg_none_of X G z_any, PySem.W.mg_none_of X G z_isinstance, PySem.W.mg_none_of X G z_bool⟩
  have Tx : CT K mg C := ⟨⟨pg, hd, po, sa⟩, n1, n2, n3, n4, n5, PySem.W.mg_of X G aC⟩
  have gHT := PySem.W.mg_of X G gHOST_TOPICS
  have tHT : ∀ H, SqT K H aHT [.str "host", .str "told"] := fun H => (.inr ⟨_, _, _, lHT, rfl, rfl, (show (2 : Nat) ≤ sizeLine by decide), (.cons ⟨_, rfl⟩ (.cons ⟨_, rfl⟩ .nil))⟩)
  have FMI := fun_mk (st := (cR 0)) lMI cMI kMI
  have FMT := fun_mk (st := (cR 1)) lMT cMT kMT
  have FMA := fun_mk (st := (cR 2)) lMA cMA kMA
  have FML := fun_mk (st := (cR 3)) lML cML kML
  have FMS := fun_mk (st := (cR 4)) lMS cMS kMS
  have FMB := fun_mk (st := (cR 5)) lMB cMB kMB
  have FMH := fun_mk (st := (cR 6)) lMH cMH kMH
  have FME := fun_mk (st := (cR 7)) lME cME kME
  have FLi := fun_mk (st := sLiveRecs) lLi cLi kLi
  have FLo := fun_mk (st := sLiveOrd) lLo cLo kLo
  have FVi := fun_mk (st := sViews) lVi cVi kVi
  have FLF := fun_mk (st := sLLeft) lLF cLF kLF
  have FWK := fun_mk (st := sWithKey) lWK cWK kWK
  have FWO := fun_mk (st := sWithoutKey) lWO cWO kWO
  have FWH := fun_mk (st := sWithHolder) lWH cWH kWH
  have FFi := fun_mk (st := sFieldsOf) lFi cFi kFi
  have FAn := fun_mk (st := sAnswerOf) lAn cAn kAn
  have FEf := fun_mk (st := sEffects) lEf cEf kEf
  have FOn := fun_mk (st := sOnce) lOn cOn kOn
  have FEk := fun_mk (st := sEffKind) lEk cEk kEk
  have FNs := fun_mk (st := sNewState) lNs cNs kNs
  have FAp := fun_mk (st := sApply) lAp cAp kAp
  have FFo := fun_mk (st := sFold) lFo cFo kFo
  have FAe := fun_mk (st := sAfterEff) lAe cAe kAe
  have FAw := fun_mk (st := sAfterWithin) lAw cAw kAw
  have FWs := fun_mk (st := sWithoutSpace) lWs cWs kWs
  have FWe := fun_mk (st := sWithEntry) lWe cWe kWe
  have FCh := fun_mk (st := sChanged) lCh cCh kCh
  have FLC := fun_mk (st := sLCell) lLC cLC kLC
  have FLD := fun_mk (st := sLDigits) lLD cLD kLD
  have FLM := fun_mk (st := sLMany) lLM cLM kLM
  have FLN := fun_mk (st := sLAnswer) lLN cLN kLN
  have FLU := fun_mk (st := sLWithout) lLU cLU kLU
  have FLW := fun_mk (st := sLWith) lLW cLW kLW
  have FLS := fun_mk (st := sLStart) lLS cLS kLS
  have FLK := fun_mk (st := sLKey) lLK cLK kLK
  have FLP := fun_mk (st := sLSpace) lLP cLP kLP
  have FLA := fun_mk (st := sLAfter) lLA cLA kLA
  have FLR := fun_mk (st := sLSure) lLR cLR kLR
  have FLT := fun_mk (st := sLTold) lLT cLT kLT
  have FLZ := fun_mk (st := sLStep) lLZ cLZ kLZ
  have FLJ := fun_mk (st := sLNamed) lLJ cLJ kLJ
  have FLQ := fun_mk (st := sLRecord) lLQ cLQ kLQ
  have FL := fun_mk (st := sLaw) lL cL kL
  have bMI := FMI.binds (ps := ["self", "records"]) fun _ _ _ _ _ _ us hl => match us, hl with | [_, _], _ => rfl
  have bMT := FMT.binds (ps := ["self"]) fun _ _ _ _ _ _ us hl => match us, hl with | [_], _ => rfl
  have bMA := FMA.binds (ps := ["self", "topic"]) fun _ _ _ _ _ _ us hl => match us, hl with | [_, _], _ => rfl
  have bML := FML.binds (ps := ["self", "topic", "number"]) fun _ _ _ _ _ _ us hl => match us, hl with | [_, _, _], _ => rfl
  have bMS := FMS.binds (ps := ["self", "namespace"]) fun _ _ _ _ _ _ us hl => match us, hl with | [_, _], _ => rfl
  have bMB := FMB.binds (ps := ["self", "namespace"]) fun _ _ _ _ _ _ us hl => match us, hl with | [_, _], _ => rfl
  have bMH := FMH.binds (ps := ["self", "topic", "order", "number"]) fun _ _ _ _ _ _ us hl => match us, hl with | [_, _, _, _], _ => rfl
  have bME := FME.binds (ps := ["self", "topic"]) fun _ _ _ _ _ _ us hl => match us, hl with | [_, _], _ => rfl
  have bLi := FLi.binds (ps := ["records"]) fun _ _ _ _ _ _ us hl => match us, hl with | [_], _ => rfl
  have bLo := FLo.binds (ps := ["rows", "topic"]) fun _ _ _ _ _ _ us hl => match us, hl with | [_, _], _ => rfl
  have bVi := FVi.binds (ps := ["rows", "topic"]) fun _ _ _ _ _ _ us hl => match us, hl with | [_, _], _ => rfl
  have bLF := FLF.binds (ps := ["records", "cell"]) fun _ _ _ _ _ _ us hl => match us, hl with | [_, _], _ => rfl
  have bWK := FWK.binds (ps := ["fence", "host", "key"]) fun _ _ _ _ _ _ us hl => match us, hl with | [_, _, _], _ => rfl
  have bWO := FWO.binds (ps := ["fence", "host"]) fun _ _ _ _ _ _ us hl => match us, hl with | [_, _], _ => rfl
  have bWH := FWH.binds (ps := ["fence", "reservation"]) fun _ _ _ _ _ _ us hl => match us, hl with | [_, _], _ => rfl
  have bFi := FFi.binds (ps := ["record"]) fun _ _ _ _ _ _ us hl => match us, hl with | [_], _ => rfl
  have bAn := FAn.binds (ps := ["record"]) fun _ _ _ _ _ _ us hl => match us, hl with | [_], _ => rfl
  have bEf := FEf.binds (ps := ["record"]) fun _ _ _ _ _ _ us hl => match us, hl with | [_], _ => rfl
  have bOn := FOn.binds (ps := ["records"]) fun _ _ _ _ _ _ us hl => match us, hl with | [_], _ => rfl
  have bEk := FEk.binds (ps := ["order", "kind", "host", "fields"]) fun _ _ _ _ _ _ us hl => match us, hl with | [_, _, _, _], _ => rfl
  have bNs := FNs.binds (ps := []) fun _ _ _ _ _ _ us hl => match us, hl with | [], _ => rfl
  have bAp := FAp.binds (ps := ["state", "record"]) fun _ _ _ _ _ _ us hl => match us, hl with | [_, _], _ => rfl
  have bFo := FFo.binds (ps := ["records"]) fun _ _ _ _ _ _ us hl => match us, hl with | [_], _ => rfl
  have bAe := FAe.binds (ps := ["state", "topic", "value"]) fun _ _ _ _ _ _ us hl => match us, hl with | [_, _, _], _ => rfl
  have bAw := FAw.binds (ps := ["state", "topic", "value"]) fun _ _ _ _ _ _ us hl => match us, hl with | [_, _, _], _ => rfl
  have bWs := FWs.binds (ps := ["state", "namespace"]) fun _ _ _ _ _ _ us hl => match us, hl with | [_, _], _ => rfl
  have bWe := FWe.binds (ps := ["state", "part", "name", "value"]) fun _ _ _ _ _ _ us hl => match us, hl with | [_, _, _, _], _ => rfl
  have bCh := FCh.binds (ps := ["table", "name", "value"]) fun _ _ _ _ _ _ us hl => match us, hl with | [_, _, _], _ => rfl
  have bLC := FLC.binds (ps := ["script", "k"]) fun _ _ _ _ _ _ us hl => match us, hl with | [_, _], _ => rfl
  have bLD := FLD.binds (ps := ["cell", "bases"]) fun _ _ _ _ _ _ us hl => match us, hl with | [_, _], _ => rfl
  have bLM := FLM.binds (ps := ["script", "few", "many"]) fun _ _ _ _ _ _ us hl => match us, hl with | [_, _, _], _ => rfl
  have bLN := FLN.binds (ps := ["order", "kind"]) fun _ _ _ _ _ _ us hl => match us, hl with | [_, _], _ => rfl
  have bLU := FLU.binds (ps := ["table", "key"]) fun _ _ _ _ _ _ us hl => match us, hl with | [_, _], _ => rfl
  have bLW := FLW.binds (ps := ["table", "key", "value"]) fun _ _ _ _ _ _ us hl => match us, hl with | [_, _, _], _ => rfl
  have bLS := FLS.binds (ps := []) fun _ _ _ _ _ _ us hl => match us, hl with | [], _ => rfl
  have bLK := FLK.binds (ps := ["fence", "host", "key"]) fun _ _ _ _ _ _ us hl => match us, hl with | [_, _, _], _ => rfl
  have bLP := FLP.binds (ps := ["world", "order", "host", "kind", "fields"]) fun _ _ _ _ _ _ us hl => match us, hl with | [_, _, _, _, _], _ => rfl
  have bLA := FLA.binds (ps := ["world", "order", "step"]) fun _ _ _ _ _ _ us hl => match us, hl with | [_, _, _], _ => rfl
  have bLR := FLR.binds (ps := ["kind", "world", "host", "namespace", "place"]) fun _ _ _ _ _ _ us hl => match us, hl with | [_, _, _, _, _], _ => rfl
  have bLT := FLT.binds (ps := ["world", "host"]) fun _ _ _ _ _ _ us hl => match us, hl with | [_, _], _ => rfl
  have bLZ := FLZ.binds (ps := ["cell", "world", "many"]) fun _ _ _ _ _ _ us hl => match us, hl with | [_, _, _], _ => rfl
  have bLJ := FLJ.binds (ps := ["world", "kind", "host", "fields"]) fun _ _ _ _ _ _ us hl => match us, hl with | [_, _, _, _], _ => rfl
  have bLQ := FLQ.binds (ps := ["order", "step"]) fun _ _ _ _ _ _ us hl => match us, hl with | [_, _], _ => rfl
  refine ⟨PySem.W.fnOf "law" "law" (defArgs sLaw) (defBody sLaw) (defScope sLaw) .none kVL dcL pmL anL cdL ctL, fun s v => .of_eq rfl, fun base _ _ => ?_⟩
  have mMI : Meth K C "__init__" fMI := ⟨aMI, iMI, kMI⟩
  have mMT : Meth K C "topics" fMT := ⟨aMT, iMT, kMT⟩
  have mMA : Meth K C "all_of" fMA := ⟨aMA, iMA, kMA⟩
  have mML : Meth K C "last_shown" fML := ⟨aML, iML, kML⟩
  have mMS : Meth K C "snapshots" fMS := ⟨aMS, iMS, kMS⟩
  have mMB : Meth K C "begins" fMB := ⟨aMB, iMB, kMB⟩
  have mMH : Meth K C "_is_hidden" fMH := ⟨aMH, iMH, kMH⟩
  have mME : Meth K C "_snapshot_exists" fME := ⟨aME, iME, kME⟩
  have dWO := Def.mk (ok_withoutKey (P := l.prog) (wrl := w) (base := base) FWO LBx) bWO kWO (PySem.W.mg_of X G aWO)
  have dWK := Def.mk (ok_withKey FWK LBx dWO) bWK kWK (PySem.W.mg_of X G aWK)
  have dWH := Def.mk (ok_withHolder (P := l.prog) (wrl := w) (mg := mg) (base := base) FWH) bWH kWH (PySem.W.mg_of X G aWH)
  have dFi := Def.mk (ok_fieldsOf (P := l.prog) (wrl := w) (base := base) FFi hHD) bFi kFi (PySem.W.mg_of X G aFi)
  have dAn := Def.mk (ok_answerOf (P := l.prog) (wrl := w) (mg := mg) (base := base) FAn) bAn kAn (PySem.W.mg_of X G aAn)
  have dEk := Def.mk (ok_effKind (P := l.prog) (wrl := w) (mg := mg) (base := base) FEk) bEk kEk (PySem.W.mg_of X G aEk)
  have dEf := Def.mk (ok_effects FEf hHD dAn dEk dFi) bEf kEf (PySem.W.mg_of X G aEf)
  have dOn := Def.mk (ok_once (P := l.prog) (wd := w) (base := base) FOn B.sorted) bOn kOn (PySem.W.mg_of X G aOn)
  have dCh := Def.mk (ok_changed (P := l.prog) (wd := w) (mg := mg) (base := base) FCh) bCh kCh (PySem.W.mg_of X G aCh)
  have dWe := Def.mk (ok_withEntry FWe dCh) bWe kWe (PySem.W.mg_of X G aWe)
  have dWs := Def.mk (ok_withoutSpace FWs dWe) bWs kWs (PySem.W.mg_of X G aWs)
  have dAw := Def.mk (ok_within FAw dWs dWe dCh dWO dWK dWH) bAw kAw (PySem.W.mg_of X G aAw)
  have dAe := Def.mk (ok_afterEff FAe hNF tNF dWe dAw) bAe kAe (PySem.W.mg_of X G aAe)
  have dNs := Def.mk (ok_newState (P := l.prog) (wd := w) (mg := mg) (base := base) FNs) bNs kNs (PySem.W.mg_of X G aNs)
  have dAp := Def.mk (ok_apply FAp dEf dAe) bAp kAp (PySem.W.mg_of X G aAp)
  have dFo := Def.mk (ok_fold FFo dNs dOn dAp) bFo kFo (PySem.W.mg_of X G aFo)
  have dLC := Def.mk (ok_cell (P := l.prog) (wd := w) (base := base) FLC B) bLC kLC (PySem.W.mg_of X G aLC)
  have dLD := Def.mk (ok_dig (P := l.prog) (wd := w) (base := base) FLD B) bLD kLD (PySem.W.mg_of X G aLD)
  have dLM := Def.mk (ok_many (P := l.prog) (wd := w) (base := base) FLM B) bLM kLM (PySem.W.mg_of X G aLM)
  have dLN := Def.mk (ok_lanswer (P := l.prog) (wd := w) (mg := mg) (base := base) FLN) bLN kLN (PySem.W.mg_of X G aLN)
  have dLU := Def.mk (ok_lwithout (P := l.prog) (wd := w) (base := base) FLU B) bLU kLU (PySem.W.mg_of X G aLU)
  have dLW := Def.mk (ok_lwith FLW dLU) bLW kLW (PySem.W.mg_of X G aLW)
  have dLS := Def.mk (ok_lstart (P := l.prog) (wd := w) (mg := mg) (base := base) FLS) bLS kLS (PySem.W.mg_of X G aLS)
  have dLK := Def.mk (ok_lkey (P := l.prog) (wd := w) (base := base) FLK B) bLK kLK (PySem.W.mg_of X G aLK)
  have dLP := Def.mk (ok_lspace FLP dLW dLU dLK) bLP kLP (PySem.W.mg_of X G aLP)
  have dLA := Def.mk (ok_lafter FLA B dLW dLU dLN dLP) bLA kLA (PySem.W.mg_of X G aLA)
  have dLR := Def.mk (ok_lsure (P := l.prog) (wd := w) (mg := mg) (base := base) FLR) bLR kLR (PySem.W.mg_of X G aLR)
  have dLT := Def.mk (ok_ltold (P := l.prog) (wd := w) (mg := mg) (base := base) FLT) bLT kLT (PySem.W.mg_of X G aLT)
  have dLJ := Def.mk (ok_lnamed (P := l.prog) (wd := w) (mg := mg) (base := base) FLJ) bLJ kLJ (PySem.W.mg_of X G aLJ)
  have dLQ := Def.mk (ok_lrecord (P := l.prog) (wd := w) (base := base) FLQ B) bLQ kLQ (PySem.W.mg_of X G aLQ)
  have dLZ := Def.mk (ok_lstep FLZ B dLD dLJ dLR dLT) bLZ kLZ (PySem.W.mg_of X G aLZ)
  have dMH := Mth.mk (ok_hidden (P := l.prog) (wd := w) (base := base) FMH Tx Bn gHT tHT) bMH mMH
  have dML := Mth.mk (ok_lastShown FML Tx dMH) bML mML
  have dMT := Mth.mk (ok_topics (P := l.prog) (wd := w) (base := base) FMT Tx Bn) bMT mMT
  have dMA := Mth.mk (ok_allOf (P := l.prog) (wd := w) (base := base) FMA Tx Bn) bMA mMA
  have dMS := Mth.mk (ok_snaps (P := l.prog) (wd := w) (base := base) FMS Tx Bn) bMS mMS
  have dMB := Mth.mk (ok_begins (P := l.prog) (wd := w) (base := base) FMB Tx) bMB mMB
  have dME := Mth.mk (ok_exists FME Tx dML) bME mME
  have oI := ok_rinit FMI Tx gHT tHT dOn dEf dME
  have MK : Mk K C fMI := ⟨mk, aMI, iMI, kc⟩
  have dVi := Def.mk (ok_views FVi Tx dMS) bVi kVi (PySem.W.mg_of X G aVi)
  have dLo := Def.mk (ok_liveOrd FLo Tx dMA dMB dML dVi) bLo kLo (PySem.W.mg_of X G aLo)
  have dLi := Def.mk (ok_liveRec FLi Tx MK oI bMI dMT dLo) bLi kLi (PySem.W.mg_of X G aLi)
  have dLF := Def.mk (ok_lleft FLF B.int dLi) bLF kLF (PySem.W.mg_of X G aLF)
  exact ok_law FL B dLS dLM dLC dLZ dLQ dLA dFo dLi dLF
/-- the law row's walk: at most 63 items -/
theorem walk_law {l : PySem.W.OpenLaw} {q : Program} {loose : List Str} {XP : (Str → Option Value) → Heap → Prop} {YP : World → Heap → Prop} {d : DefRec} {K : Params → PySem.W.Frag} (hn : l.most = some 63) (hdf : d.params.defaults = [])
    (hY : ∀ (w : World) (h : Heap), YP w h → (K w.params).In h)
    (F : ∀ (w : World) (mg : Str → Option Value) (fa : Addr) (h : Heap), (K w.params).In h → h.Ns mainGlobals mg → mg d.name = some (.ref fa) →
      ∃ fd : FuncData, (∀ (s : Shared) (u : Value), BindsTo s fd ⟨[u], []⟩ [("script", u)]) ∧ ∀ base : Heap, (K w.params).In base → base.Ns mainGlobals mg → FnOk l.prog w (K w.params) mg base CX0 8 fa fd ["script"] (spLaw (K w.params))) :
    PySem.W.WalkO q loose XP YP l.row.toRowW d [] (fun f vs => PySem.call f vs) :=
  L2.walk_of (n := 63) (k := 8) (x := "script") (CX := fun _ => CX0) (sp := fun w => spLaw (K w.params)) hn (by decide) hdf ⟨rfl, by decide, by decide⟩ hY F (fun _ _ a ns hl _ hS => ⟨a, ns, rfl, hS, hl, fun _ => rfl⟩) fun _ _ _ _ _ z => z
end Sg

set_option Elab.async false
set_option linter.all false
set_option maxRecDepth 100000
set_option maxHeartbeats 8000000
open PySem PySem.W PyProof.Rows
set_option maxRecDepth 100000 in
set_option maxHeartbeats 0 in
theorem PySem.Challenge.cw_spindlegate_k28_state_of_live_records_holds : PySem.Challenge.rw_spindlegate_k28_state_of_live_records.Holds := by
  w_on; o_law; k_head; (case hw => w_witness2)
  k_fill
  refine Sg.walk_law (l := PySem.Challenge.rw_spindlegate_k28_state_of_live_records) rfl rfl (fun w h Y => PySem.W.kIn_of Y) ?F
  case F =>
    intro w mg fa h KX G hmg
    refine' Sg.all_mk KX G hmg ?aC ?pg ?hd ?po ?sa ?mk ?kc ?n1 ?n2 ?n3 ?n4 ?n5 ?aMI ?iMI ?lMI ?cMI ?kMI ?aMT ?iMT ?lMT ?cMT ?kMT ?aMA ?iMA ?lMA ?cMA ?kMA ?aML ?iML ?lML ?cML ?kML ?aMS ?iMS ?lMS ?cMS ?kMS ?aMB ?iMB ?lMB ?cMB ?kMB ?aMH ?iMH ?lMH ?cMH ?kMH ?aME ?iME ?lME ?cME ?kME ?gHOST_TOPICS ?lHT ?aLi ?lLi ?cLi ?kLi ?aLo ?lLo ?cLo ?kLo ?aVi ?lVi ?cVi ?kVi ?aLF ?lLF ?cLF ?kLF ?aWK ?lWK ?cWK ?kWK ?aWO ?lWO ?cWO ?kWO ?aWH ?lWH ?cWH ?kWH ?aFi ?lFi ?cFi ?kFi ?aAn ?lAn ?cAn ?kAn ?aEf ?lEf ?cEf ?kEf ?aOn ?lOn ?cOn ?kOn ?aEk ?lEk ?cEk ?kEk ?aNs ?lNs ?cNs ?kNs ?aAp ?lAp ?cAp ?kAp ?aFo ?lFo ?cFo ?kFo ?aAe ?lAe ?cAe ?kAe ?aAw ?lAw ?cAw ?kAw ?aWs ?lWs ?cWs ?kWs ?aWe ?lWe ?cWe ?kWe ?aCh ?lCh ?cCh ?kCh ?aLC ?lLC ?cLC ?kLC ?aLD ?lLD ?cLD ?kLD ?aLM ?lLM ?cLM ?kLM ?aLN ?lLN ?cLN ?kLN ?aLU ?lLU ?cLU ?kLU ?aLW ?lLW ?cLW ?kLW ?aLS ?lLS ?cLS ?kLS ?aLK ?lLK ?cLK ?kLK ?aLP ?lLP ?cLP ?kLP ?aLA ?lLA ?cLA ?kLA ?aLR ?lLR ?cLR ?kLR ?aLT ?lLT ?cLT ?kLT ?aLZ ?lLZ ?cLZ ?kLZ ?aLJ ?lLJ ?cLJ ?kLJ ?aLQ ?lLQ ?cLQ ?kLQ ?aL ?lL ?cL ?kL ?gHEAD ?gNO_FENCE ?lNF ?lNE ?z_len ?z_abs ?z_int ?z_list ?z_range ?z_tuple ?z_sorted ?z_min ?z_dict ?z_repr ?z_isinstance ?z_any ?z_bool
    (case aC => k_is)
    (case pg => k_is)
    (case hd => k_is)
    (case po => k_is)
    (case sa => k_is)
    (case mk => k_is)
    (case kc => k_is)
    (case n1 => k_is)
    (case n2 => k_is)
    (case n3 => k_is)
    (case n4 => k_is)
    (case n5 => k_is)
    (case aMI => k_is)
    (case iMI => k_is)
    (case lMI => k_is)
    (case cMI => k_is)
    (case kMI => k_is)
    (case aMT => k_is)
    (case iMT => k_is)
    (case lMT => k_is)
    (case cMT => k_is)
    (case kMT => k_is)
    (case aMA => k_is)
    (case iMA => k_is)
    (case lMA => k_is)
    (case cMA => k_is)
    (case kMA => k_is)
    (case aML => k_is)
    (case iML => k_is)
    (case lML => k_is)
    (case cML => k_is)
    (case kML => k_is)
    (case aMS => k_is)
    (case iMS => k_is)
    (case lMS => k_is)
    (case cMS => k_is)
    (case kMS => k_is)
    (case aMB => k_is)
    (case iMB => k_is)
    (case lMB => k_is)
    (case cMB => k_is)
    (case kMB => k_is)
    (case aMH => k_is)
    (case iMH => k_is)
    (case lMH => k_is)
    (case cMH => k_is)
    (case kMH => k_is)
    (case aME => k_is)
    (case iME => k_is)
    (case lME => k_is)
    (case cME => k_is)
    (case kME => k_is)
    (case gHOST_TOPICS => k_is)
    (case lHT => k_is)
    (case aLi => k_is)
    (case lLi => k_is)
    (case cLi => k_is)
    (case kLi => k_is)
    (case aLo => k_is)
    (case lLo => k_is)
    (case cLo => k_is)
    (case kLo => k_is)
    (case aVi => k_is)
    (case lVi => k_is)
    (case cVi => k_is)
    (case kVi => k_is)
    (case aLF => k_is)
    (case lLF => k_is)
    (case cLF => k_is)
    (case kLF => k_is)
    (case aWK => k_is)
    (case lWK => k_is)
    (case cWK => k_is)
    (case kWK => k_is)
    (case aWO => k_is)
    (case lWO => k_is)
    (case cWO => k_is)
    (case kWO => k_is)
    (case aWH => k_is)
    (case lWH => k_is)
    (case cWH => k_is)
    (case kWH => k_is)
    (case aFi => k_is)
    (case lFi => k_is)
    (case cFi => k_is)
    (case kFi => k_is)
    (case aAn => k_is)
    (case lAn => k_is)
    (case cAn => k_is)
    (case kAn => k_is)
    (case aEf => k_is)
    (case lEf => k_is)
    (case cEf => k_is)
    (case kEf => k_is)
    (case aOn => k_is)
    (case lOn => k_is)
    (case cOn => k_is)
    (case kOn => k_is)
    (case aEk => k_is)
    (case lEk => k_is)
    (case cEk => k_is)
    (case kEk => k_is)
    (case aNs => k_is)
    (case lNs => k_is)
    (case cNs => k_is)
    (case kNs => k_is)
    (case aAp => k_is)
    (case lAp => k_is)
    (case cAp => k_is)
    (case kAp => k_is)
    (case aFo => k_is)
    (case lFo => k_is)
    (case cFo => k_is)
    (case kFo => k_is)
    (case aAe => k_is)
    (case lAe => k_is)
    (case cAe => k_is)
    (case kAe => k_is)
    (case aAw => k_is)
    (case lAw => k_is)
    (case cAw => k_is)
    (case kAw => k_is)
    (case aWs => k_is)
    (case lWs => k_is)
    (case cWs => k_is)
    (case kWs => k_is)
    (case aWe => k_is)
    (case lWe => k_is)
    (case cWe => k_is)
    (case kWe => k_is)
    (case aCh => k_is)
    (case lCh => k_is)
    (case cCh => k_is)
    (case kCh => k_is)
    (case aLC => k_is)
    (case lLC => k_is)
    (case cLC => k_is)
    (case kLC => k_is)
    (case aLD => k_is)
    (case lLD => k_is)
    (case cLD => k_is)
    (case kLD => k_is)
    (case aLM => k_is)
    (case lLM => k_is)
    (case cLM => k_is)
    (case kLM => k_is)
    (case aLN => k_is)
    (case lLN => k_is)
    (case cLN => k_is)
    (case kLN => k_is)
    (case aLU => k_is)
    (case lLU => k_is)
    (case cLU => k_is)
    (case kLU => k_is)
    (case aLW => k_is)
    (case lLW => k_is)
    (case cLW => k_is)
    (case kLW => k_is)
    (case aLS => k_is)
    (case lLS => k_is)
    (case cLS => k_is)
    (case kLS => k_is)
    (case aLK => k_is)
    (case lLK => k_is)
    (case cLK => k_is)
    (case kLK => k_is)
    (case aLP => k_is)
    (case lLP => k_is)
    (case cLP => k_is)
    (case kLP => k_is)
    (case aLA => k_is)
    (case lLA => k_is)
    (case cLA => k_is)
    (case kLA => k_is)
    (case aLR => k_is)
    (case lLR => k_is)
    (case cLR => k_is)
    (case kLR => k_is)
    (case aLT => k_is)
    (case lLT => k_is)
    (case cLT => k_is)
    (case kLT => k_is)
    (case aLZ => k_is)
    (case lLZ => k_is)
    (case cLZ => k_is)
    (case kLZ => k_is)
    (case aLJ => k_is)
    (case lLJ => k_is)
    (case cLJ => k_is)
    (case kLJ => k_is)
    (case aLQ => k_is)
    (case lLQ => k_is)
    (case cLQ => k_is)
    (case kLQ => k_is)
    (case aL => k_is)
    (case lL => k_is)
    (case cL => k_is)
    (case kL => k_is)
    (case gHEAD => k_is)
    (case gNO_FENCE => k_is)
    (case lNF => k_is)
    (case lNE => k_is)
    (case z_len => k_is)
    (case z_abs => k_is)
    (case z_int => k_is)
    (case z_list => k_is)
    (case z_range => k_is)
    (case z_tuple => k_is)
    (case z_sorted => k_is)
    (case z_min => k_is)
    (case z_dict => k_is)
    (case z_repr => k_is)
    (case z_isinstance => k_is)
    (case z_any => k_is)
    (case z_bool => k_is)

