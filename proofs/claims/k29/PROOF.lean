import PyProof.Rows.All
import Wide.All
import OpenK.AllK
import Wide.FinOn
import HandS.Base
import HandS.Call
import HandS.List
import HandS.Comp
import HandS.Ends
import HandS.Dict
import HandS.Iter
import HandS.Text
import HandS.Words
import HandS.WordsList
import HandS.Steps
import HandS.Evl
import HandS.Exc
import HandS.TryOnly
import HandS.ExcOwn
import HandS.WordsExc
import HandS.IsInst
import HandS.ExcIs
import HandS.Deep
import HandS.More
import HandS.WrittenGet
import KE.KIndexOf
import HandS.Zip
import HandS.Star
import PyProof.RulesMatch
import PyProof.RulesMatchSeq
import PyProof.Rows.MatchSeqLen
import PyProof.Rows.TupIter
import KE.KDictPairs
import PyProof.P3In
import HandS.DictComp
import HandS.SortInts
import HandS.SetKeys
import HandS.Walk
import PyProof.DictUpdate
import PyProof.DictFindH
import HandS.SortRule
import HandS.DictEq
import HandS.DeepEq
import HandS.OwnEq
import PyProof.ReprRoads
import HandS.Conv
import PySem.Challenge.RW_spindlegate_k29_reading_the_state
set_option Elab.async false
set_option linter.all false
set_option maxRecDepth 100000
set_option maxHeartbeats 4000000
/-! General lemmas: readings of expressions, small heaps, lists. -/
namespace Sg
open PySem PySem.Spec PyProof.Rows L2
section
variable {σ : L2.St} {H : Hp} {ta tb te : TE} {i j : Int} {K : PySem.W.Frag} {x y z : V}
theorem v0 {g : Int → Int → V} (ha : Val ta σ H (.int i)) (hb : Val tb σ H (.int j)) : Val (tOp (rI0 g) ta tb) σ H (g i j) := val_op ha hb fun _ q => ⟨i, j, rfl, rfl, q⟩
theorem vc {C : Int → Int → Prop} {g : Int → Int → V} (ha : Val ta σ H (.int i)) (hb : Val tb σ H (.int j)) (hc : C i j) : Val (tOp (rI C g) ta tb) σ H (g i j) := val_op ha hb fun _ q => ⟨i, j, rfl, rfl, hc, q⟩
theorem vEq (ha : Val ta σ H x) (hb : Val tb σ H y) (hs : scal x y = true) : Val (tOp rEq ta tb) σ H (.bl (decide (x = y))) := val_op ha hb fun _ q => ⟨hs, q⟩
theorem vNe (ha : Val ta σ H x) (hb : Val tb σ H y) (hs : scal x y = true) : Val (tOp rNe ta tb) σ H (.bl (!decide (x = y))) := val_op ha hb fun _ q => ⟨hs, q⟩
theorem vIx {p : Addr} {xs : List V} {n : Nat} (ha : Val ta σ H (.ref p)) (hb : Val tb σ H (.int (n : Int))) (hp : SqL K H p xs) (hn : xs[n]? = some z) : Val (tOp (rIxL K) ta tb) σ H z :=
  val_op ha hb fun _ q => ⟨p, xs, _, z, rfl, rfl, hp, atI_nat hn, q⟩
theorem vIs {v w : V} (h : Val te σ H v) (e : v = w) : Val te σ H w := e ▸ h
/-- a built-in's call of one argument -/
theorem vCB1 {r : List V → Hp → VK → Prop} (ha : Val ta σ H x) (hr : ∀ Q : VK, Q z H → r [x] H Q) : Val (tCB r (tCons ta tNil)) σ H z := fun Q q => ha _ (hr Q q)
theorem vCB2 {r : List V → Hp → VK → Prop} (ha : Val ta σ H x) (hb : Val tb σ H y) (hr : ∀ Q : VK, Q z H → r [x, y] H Q) : Val (tCB r (tCons ta (tCons tb tNil))) σ H z := fun Q q => ha _ (hb _ (hr Q q))
theorem aTest {b : Bool} (h : Val te σ H (.bl b)) : Ans (tTest te) σ H b := fun Q q => h _ ⟨b, rfl, q⟩
end
theorem map_get {α β : Type} {f : α → β} {l : List α} {i : Nat} {y : β} (h : (l.map f)[i]? = some y) : ∃ z, l[i]? = some z ∧ y = f z := by
  rw [List.getElem?_map] at h
  cases e : l[i]? with
  | none =>
    rw [e] at h
    cases h
  | some z =>
    rw [e] at h
    exact ⟨z, rfl, (Option.some.inj h).symm⟩
theorem get_map {α β : Type} {f : α → β} {l : List α} {i : Nat} {z : α} (h : l[i]? = some z) : (l.map f)[i]? = some (f z) := by rw [List.getElem?_map, h]; rfl
theorem upd_two {H : Hp} {a : Addr} {o u : HO} : upd (upd H a o) a u = upd H a u := upd_upd
theorem same_new {H : Hp} {p : Addr} {o : HO} (h : H p = Option.none) : Same H (upd H p o) := fun b u e => by
  rw [upd_ne (ne_of_none e h)]
  exact e
end Sg

set_option Elab.async false
set_option linter.all false
set_option maxRecDepth 100000
set_option maxHeartbeats 4000000
namespace Sg
open PySem PySem.Spec PyProof.Rows L2
/-! ### rules of our own -/
section
variable {X : Cx}
/-- C(), an own exception without an __init__ of its own -/
theorem pmk_own0 {C : Addr} {bmB : List Value} {B newId initId : String} {x : Str} {p pos : Pos} (F : ExcBaseFacts B newId initId bmB) (q : PySem.W.excIn X.K C bmB newId = true) (gC : X.mg x = some (.ref C))
    (kC : PySem.W.keepIn X.K (.ref C) = true) (r : Raises X (.ref C)) (hg : Gl X x) (hdb : (x == ("__debug__" : Str)) = false := by decide) :
    PMk X (.Call (.Name x p) [] [] pos) (fun _ H Q => Q (.ref C) none H) := by
  intro pins s σ H Q I h
  refine wpAny_Call_Name_kw (ld_glob I hg gC ?_ hdb)
  refine PySem.W.callWith_K0 I.kIn kC ?_
  obtain ⟨bm, N, nm, qn, bs, hdct, sn, sub, ab, col, dd, k0, k1, k2, k3, k5, mN, hC, hN, hni, T⟩ := exc_obj I.kIn q
  exact wpAny_call_exc_subT F T hC hN hni (fun h' e hm => mk_of I hm r h (I.hok.gone hm.new)) (Nat.zero_le _)
/-- o[i] of a list, by values, a place in bounds from the left -/
def rGetL (K : PySem.W.Frag) : V → V → Hp → VK → Prop := fun o i H Q => ∃ p xs n v, o = .ref p ∧ i = .int ((n : Nat) : Int) ∧ SqL K H p xs ∧ xs[n]? = some v ∧ Q v H
theorem get_list : PGet X (rGetL X.K) := by
  intro pins s σ H o i ov iv Q I ro ri h
  obtain ⟨p, xs, n, v, rfl, rfl, hq, he, q⟩ := h
  cases ro
  obtain ⟨t, rfl⟩ := ri
  obtain ⟨its, r, pl, hz⟩ := I.list hq
  obtain ⟨w, ew, rw'⟩ := r.get he
  have hl := r.length
  have hn := line63
  have hb := (List.getElem?_eq_some_iff.mp he).1
  exact wpAny_getItem_list pl.isList (by omega) (by omega) (by simpa using ew) ⟨v, H, I, rw', q⟩
/-- l.count(y): how many are equal, data of any depth -/
def rCountD (K : PySem.W.Frag) : V → List V → Hp → VK → Prop := fun x xs H Q => ∃ (a : Addr) (y : V) (d : PyData) (ds : List PyData), x = V.ref a ∧ xs = [y] ∧ Dp K H (V.ref a) (.list ds) ∧ Dp K H y d ∧
  SeqAt.shaped (.list ds) = true ∧ SeqAt.shaped d = true ∧ Q (.int (ds.countP (fun z => PyData.eqv z d) : Nat)) H
theorem mt_countD (hu : X.A.units + 65 < cLine) : MtR X "list.count" (rCountD X.K) := by
  intro pins s σ H x xs v us Q I rx rxs h
  obtain ⟨a, y, d, ds, rfl, rfl, hl, hy, sl, sd, q⟩ := h
  cases rx
  cases rxs with
  | cons ry rt =>
    rename_i uy ut
    cases rt
    obtain ⟨bs, r1⟩ := Dp.reads I d y uy hy ry
    have hxs : PyData.canLayAll0 ds = true := SeqAt.canLay_of_shaped sl
    have hroom : X.A.units + 1 + min (PyData.depthAll ds) d.depth < cLine := room_in_shaped sd hu
    cases hl with
    | lst hs ha =>
      obtain ⟨its, rv, ⟨⟨cls, dd, data, sls⟩, n, ho, hc, hdn, hdt⟩, hlen⟩ := I.list hs
      simp only at hc hdt
      subst hc hdt
      obtain ⟨as, h4⟩ := Dp.readsAll I ds _ its ha rv
      have hmap : its.map (SeqAt.readOf s.heap) = ds := SeqAt.readsAll_map ds its as hxs h4
      refine call_meets PySem.F.slot_list_count ⟨_, ho, rfl⟩ PySem.F.entry_list_count (PySem.F.args_list_count_2 _ _)
        (SeqAt.list_countAt a its.toArray n dd sls uy (fun u => PyData.eqv (SeqAt.readOf s.heap u) d)) ⟨ho, SeqAt.items_eqAt (vs := its.toArray) (show ReadsAll s.heap its.toArray.toList ds as from h4) r1 hxs (SeqAt.canLay_of_shaped sd) hroom, ?_⟩
      have ec : its.toArray.toList.countP (fun u => PyData.eqv (SeqAt.readOf s.heap u) d) = ds.countP (fun z => PyData.eqv z d) := by
        rw [← hmap, List.countP_map]
        rfl
      refine ⟨.int (ds.countP (fun z => PyData.eqv z d) : Nat), H, I.tok _, ⟨s.toks, ?_⟩, q⟩
      show Value.int ((its.toArray.toList.countP (fun u => PyData.eqv (SeqAt.readOf s.heap u) d) : Nat) : Int) s.toks = _
      rw [ec]
/-- isinstance(e, c), e the exception that the suite holds, whatever its class is -/
def rIsX (K : PySem.W.Frag) (a : Addr) (cls : Value) (d : Option Addr) : List V → Hp → VK → Prop := fun xs H Q => ∃ (D : Addr) (c : V) (cv : Value) (b : Bool), cls = .ref D ∧ d = none ∧ ExcC K D ∧ xs = [.ref a, c] ∧ (∀ u, RelV c u → u = cv) ∧ PySem.W.kitOne K (.ref D) cv = some b ∧ Q (.bl b) H
theorem call_isX {a : Addr} {oe : Obj} {cls : Value} {d : Option Addr} {pn : List (Addr × Obj)} (hz : Zc cls d oe) (hf : ∃ vs, oe.data = .fields vs) : CallR (X.suite a ((a, oe) :: pn)) (.builtin "isinstance") (rIsX X.K a cls d) := by
  intro pins s σ H xs us Q I r h
  obtain ⟨D, c, cv, b, rfl, rfl, C, rfl, hcv, e, q⟩ := h
  exact call_isE C hz hf pins s σ H _ us Q I r ⟨c, cv, b, rfl, hcv, e, q⟩
end
/-- an exception of a subclass is what the clause names -/
theorem exm_sub {K : PySem.W.Frag} {S T : Addr} (h1 : PySem.W.subIn K (.ref T) (.type "BaseException") = some true) (h2 : PySem.W.isClsIn K T = true) (h3 : PySem.W.typeIn K (.ref T) = some (.type "type")) (h4 : PySem.W.subIn K (.ref S) (.ref T) = some true) :
    PySem.W.exmOne K (.ref S) (.ref T) = some true := by
  have e1 : (PySem.W.subIn K (.ref T) (.type "BaseException") == some true) = true := by rw [h1] <;> rfl
  have e2 : ((PySem.W.clsIn K T).isSome && PySem.W.typeIn K (.ref T) == some (.type "type")) = true := by
    have h2' : (PySem.W.clsIn K T).isSome = true := h2
    rw [h2', h3] <;> rfl
  show (if (PySem.W.subIn K (.ref T) (.type "BaseException") == some true) = true then (if ((PySem.W.clsIn K T).isSome && PySem.W.typeIn K (.ref T) == some (.type "type")) = true then PySem.W.subIn K (.ref S) (.ref T) else none) else none) = some true
  rw [if_pos e1, if_pos e2]
  exact h4
end Sg

set_option Elab.async false
set_option linter.all false
set_option maxRecDepth 100000
set_option maxHeartbeats 4000000
namespace Sg
open PySem PySem.Spec PyProof.Rows L2
def top (i : Nat) : Stmt := PySem.Challenge.pw_spindlegate_k29_reading_the_state.main.body.getD i (.Pass ⟨0, 0, 0, 0⟩)
abbrev sWithKey : Stmt := top 7
abbrev sWithoutKey : Stmt := top 8
abbrev sWithHolder : Stmt := top 9
abbrev sFieldsOf : Stmt := top 12
abbrev sAnswerOf : Stmt := top 13
abbrev sEffects : Stmt := top 14
abbrev sEffKind : Stmt := top 15
abbrev sNewState : Stmt := top 17
abbrev sApply : Stmt := top 18
abbrev sAfterEff : Stmt := top 22
abbrev sAfterWithin : Stmt := top 23
abbrev sWithoutSpace : Stmt := top 24
abbrev sWithEntry : Stmt := top 25
abbrev sChanged : Stmt := top 26
abbrev sLCell : Stmt := top 28
abbrev sLDigits : Stmt := top 29
abbrev sLMany : Stmt := top 30
abbrev sLAnswer : Stmt := top 31
abbrev sLWithout : Stmt := top 32
abbrev sLWith : Stmt := top 33
abbrev sLStart : Stmt := top 34
abbrev sLKey : Stmt := top 35
abbrev sLSpace : Stmt := top 36
abbrev sLAfter : Stmt := top 37
abbrev sLSure : Stmt := top 38
abbrev sLTold : Stmt := top 39
abbrev sLStep : Stmt := top 40
abbrev sLNamed : Stmt := top 41
abbrev sLRecord : Stmt := top 42
abbrev sWhole : Stmt := top 1
abbrev sSpaceOf : Stmt := top 19
abbrev sReadCell : Stmt := top 20
abbrev sReadSnap : Stmt := top 21
abbrev sLRefused : Stmt := top 43
abbrev sLValue : Stmt := top 44
abbrev sLReads : Stmt := top 45
abbrev sLaw : Stmt := top 46
structure Def (P : Program) (wd : World) (K : PySem.W.Frag) (mg : Str → Option Value) (base : Heap) (CX : CXT) (x : Str) (k : Nat) (ps : List Str) (sp : Sp) (f : Addr) (fd : FuncData) : Prop where
  ok : FnOk P wd K mg base CX k f fd ps sp
  bd : Binds K fd ps []
  kp : PySem.W.keepIn K (.ref f) = true
  mg : mg x = some (.ref f)
/-! ### what is kept -/
/-- every tuple is kept -/
structure TK (H H' : Hp) : Prop where
  t : ∀ a xs, H a = some (.tup xs) → H' a = some (.tup xs)
  f : ∀ a o xs, H a = some (.frz o (.tup xs)) → H' a = some (.frz o (.tup xs))
theorem TK.refl (H : Hp) : TK H H := ⟨fun _ _ h => h, fun _ _ _ h => h⟩
theorem TK.trans {H H1 H2 : Hp} (a : TK H H1) (b : TK H1 H2) : TK H H2 := ⟨fun x y h => b.t _ _ (a.t _ _ h), fun x y z h => b.f _ _ _ (a.f _ _ _ h)⟩
theorem TK.of {H H' : Hp} (s : Same H H') : TK H H' := ⟨fun _ _ h => s _ _ h, fun _ _ _ h => s _ _ h⟩
def Off (xs : List Addr) (H H' : Hp) : Prop := ∀ b o, H b = some o → b ∉ xs → H' b = some o
theorem Off.refl {xs : List Addr} (H : Hp) : Off xs H H := fun _ _ h _ => h
theorem Off.trans {xs : List Addr} {H H1 H2 : Hp} (a : Off xs H H1) (b : Off xs H1 H2) : Off xs H H2 := fun x o h n => b _ _ (a _ _ h n) n
theorem Off.of {xs : List Addr} {H H' : Hp} (s : Same H H') : Off xs H H' := fun _ _ h _ => s _ _ h
theorem Off.upd {xs : List Addr} {H : Hp} {p : Addr} {o : HO} (h : p ∈ xs) : Off xs H (upd H p o) := fun b u e n => by
  rw [upd_ne (fun (z : b = p) => n (by rw [z]; exact h))]; exact e
/-- lists and dicts alone were changed -/
theorem TK.off {xs : List Addr} {H H' : Hp} (o : Off xs H H') (h : ∀ x ∈ xs, (∃ l, H x = some (.lst l)) ∨ ∃ d, H x = some (.dK d)) : TK H H' := by
  refine ⟨fun a l e => o _ _ e fun m => ?_, fun a b l e => o _ _ e fun m => ?_⟩
  · rcases h a m with ⟨z, q⟩ | ⟨z, q⟩ <;> (rw [e] at q; cases q)
  · rcases h a m with ⟨z, q⟩ | ⟨z, q⟩ <;> (rw [e] at q; cases q)
section
variable {K : PySem.W.Frag} {H H' : Hp}
theorem sqT_tk {a : Addr} {xs : List V} (h : SqT K H a xs) (s : TK H H') : SqT K H' a xs := by
  rcases h with (h | ⟨o, h⟩) | h
  · exact .inl (.inl (s.t _ _ h))
  · exact .inl (.inr ⟨o, s.f _ _ _ h⟩)
  · exact .inr h
end
def strIn (s : Str) (ns : List Str) : Bool := ns.any fun y => decide (y = s)
theorem inV_str {s : Str} : ∀ {ns : List Str}, inV (.str s) (ns.map V.str) = strIn s ns
  | [] => rfl
  | n :: ns => by
    show (eqV (.str n) (.str s) || inV (.str s) (ns.map V.str)) = (decide (n = s) || strIn s ns)
    rw [inV_str (ns := ns)]
    rfl
theorem flat_strs : ∀ {ns : List Str}, (ns.map V.str).all flatV = true
  | [] => rfl
  | n :: ns => by rw [List.map_cons, List.all_cons, flat_strs (ns := ns)]; rfl
def strInD (ns : List Str) : PyData → Bool
  | .str s => strIn s ns
  | _ => false
theorem str_eqT {x : Str} : decide (V.str x = V.str x) = true := decide_eq_true rfl
theorem str_eqF {x y : Str} (h : ¬ x = y) : decide (V.str x = V.str y) = false := decide_eq_false (fun z => h (by cases z; rfl))
theorem nil_ {σ : L2.St} {H : Hp} {Q : List V → Hp → Prop} (h : Q [] H) : tNil σ H Q := h
theorem tc_ {σ : L2.St} {H : Hp} {v : V} {Q : List V → Hp → Prop} (h : Q [v] H) : tCons (tC v) tNil σ H Q := h
theorem yesIte {σ : L2.St} {H : Hp} {A B : Hp → Prop} (h : A H) : tYes σ H (fun b H3 => if b = true then A H3 else B H3) := by
  show (if true = true then A H else B H)
  rw [if_pos rfl]; exact h
/-- a method, ready to be called -/
structure Mth (P : Program) (wd : World) (K : PySem.W.Frag) (mg : Str → Option Value) (base : Heap) (CX : CXT) (C : Addr) (x : Str) (k : Nat) (ps : List Str) (sp : Sp) (f : Addr) (fd : FuncData) : Prop where
  ok : FnOk P wd K mg base CX k f fd ps sp
  bd : Binds K fd ps []
  me : Meth K C x f
theorem lk_here {k : Str} {v : V} {r : List (Str × V)} : List.lookup k ((k, v) :: r) = some v := by
  have e : (k == k) = true := beq_self_eq_true k
  simp only [List.lookup, e]
theorem lk_past {k g : Str} {v : V} {r : List (Str × V)} (h : (k == g) = false) : List.lookup k ((g, v) :: r) = List.lookup k r := by
  simp only [List.lookup, h]
theorem put_here {f : Str} {v x : V} {r : List (Str × V)} : putF f v ((f, x) :: r) = (f, v) :: r := if_pos rfl
theorem put_past {f g : Str} {v x : V} {r : List (Str × V)} (h : ¬ g = f) : putF f v ((g, x) :: r) = (g, x) :: putF f v r := if_neg h
end Sg

set_option Elab.async false
set_option linter.all false
set_option maxRecDepth 100000
set_option maxHeartbeats 4000000
namespace Sg
open PySem PySem.Spec PyProof.Rows L2
/-! ### data -/
def intB : PyData → Bool
  | .int _ => true
  | .bool _ => true
  | _ => false
def boolB : PyData → Bool
  | .bool _ => true
  | _ => false
def strB : PyData → Bool
  | .str _ => true
  | _ => false
def tupB : PyData → Bool
  | .tuple _ => true
  | _ => false
def lstB : PyData → Bool
  | .list _ => true
  | _ => false
def wholeD : PyData → Bool
  | .int _ => true
  | _ => false
def atLeastD (lo : Int) : PyData → Bool
  | .int i => decide (lo ≤ i)
  | _ => false
def betwD (lo hi : Int) : PyData → Bool
  | .int i => decide (lo ≤ i) && decide (i ≤ hi)
  | _ => false
/-- what a value's type is, by its data -/
theorem dp_ty {K : PySem.W.Frag} {H : Hp} {x : V} {d : PyData} (h : Dp K H x d) : ∃ t, TyX K H x t ∧ PySem.W.kitOne K t (.type "int") = some (intB d) ∧ PySem.W.kitOne K t (.type "bool") = some (boolB d) ∧ PySem.W.kitOne K t (.type "str") = some (strB d) ∧
    PySem.W.kitOne K t (.type "tuple") = some (tupB d) ∧ PySem.W.kitOne K t (.type "list") = some (lstB d) := by
  cases h with
  | non => exact ⟨_, .base .non, (show PySem.W.kitOne K (.type "NoneType") (.type "int") = some false from kit_ty (by decide +kernel)), (show PySem.W.kitOne K (.type "NoneType") (.type "bool") = some false from kit_ty (by decide +kernel)), (show PySem.W.kitOne K (.type "NoneType") (.type "str") = some false from kit_ty (by decide +kernel)), (show PySem.W.kitOne K (.type "NoneType") (.type "tuple") = some false from kit_ty (by decide +kernel)), (show PySem.W.kitOne K (.type "NoneType") (.type "list") = some false from kit_ty (by decide +kernel))⟩
  | bl b => exact ⟨_, .base (.bl b), (show PySem.W.kitOne K (.type "bool") (.type "int") = some true from kit_ty (by decide +kernel)), (show PySem.W.kitOne K (.type "bool") (.type "bool") = some true from kit_ty (by decide +kernel)), (show PySem.W.kitOne K (.type "bool") (.type "str") = some false from kit_ty (by decide +kernel)), (show PySem.W.kitOne K (.type "bool") (.type "tuple") = some false from kit_ty (by decide +kernel)), (show PySem.W.kitOne K (.type "bool") (.type "list") = some false from kit_ty (by decide +kernel))⟩
  | int i => exact ⟨_, .base (.int i), (show PySem.W.kitOne K (.type "int") (.type "int") = some true from kit_ty (by decide +kernel)), (show PySem.W.kitOne K (.type "int") (.type "bool") = some false from kit_ty (by decide +kernel)), (show PySem.W.kitOne K (.type "int") (.type "str") = some false from kit_ty (by decide +kernel)), (show PySem.W.kitOne K (.type "int") (.type "tuple") = some false from kit_ty (by decide +kernel)), (show PySem.W.kitOne K (.type "int") (.type "list") = some false from kit_ty (by decide +kernel))⟩
  | str x => exact ⟨_, .base (.str x), (show PySem.W.kitOne K (.type "str") (.type "int") = some false from kit_ty (by decide +kernel)), (show PySem.W.kitOne K (.type "str") (.type "bool") = some false from kit_ty (by decide +kernel)), (show PySem.W.kitOne K (.type "str") (.type "str") = some true from kit_ty (by decide +kernel)), (show PySem.W.kitOne K (.type "str") (.type "tuple") = some false from kit_ty (by decide +kernel)), (show PySem.W.kitOne K (.type "str") (.type "list") = some false from kit_ty (by decide +kernel))⟩
  | lst hs _ =>
    refine ⟨.type "list", ?_, (show PySem.W.kitOne K (.type "list") (.type "int") = some false from kit_ty (by decide +kernel)), (show PySem.W.kitOne K (.type "list") (.type "bool") = some false from kit_ty (by decide +kernel)), (show PySem.W.kitOne K (.type "list") (.type "str") = some false from kit_ty (by decide +kernel)), (show PySem.W.kitOne K (.type "list") (.type "tuple") = some false from kit_ty (by decide +kernel)), (show PySem.W.kitOne K (.type "list") (.type "list") = some true from kit_ty (by decide +kernel))⟩
    rcases hs with (h | ⟨o, h⟩) | ⟨o, its, n, h1, h2, _⟩
    · exact .base (.lst h)
    · exact .base (.frz h)
    · exact .kList h1 h2
  | tup hs _ =>
    refine ⟨.type "tuple", ?_, (show PySem.W.kitOne K (.type "tuple") (.type "int") = some false from kit_ty (by decide +kernel)), (show PySem.W.kitOne K (.type "tuple") (.type "bool") = some false from kit_ty (by decide +kernel)), (show PySem.W.kitOne K (.type "tuple") (.type "str") = some false from kit_ty (by decide +kernel)), (show PySem.W.kitOne K (.type "tuple") (.type "tuple") = some true from kit_ty (by decide +kernel)), (show PySem.W.kitOne K (.type "tuple") (.type "list") = some false from kit_ty (by decide +kernel))⟩
    rcases hs with (h | ⟨o, h⟩) | ⟨o, its, n, h1, h2, _⟩
    · exact .base (.tup h)
    · exact .fTuple h
    · exact .kTuple h1 h2
theorem SqT_same {K : PySem.W.Frag} {H H' : Hp} {a : Addr} {xs : List V} (s : Same H H') (h : SqT K H a xs) : SqT K H' a xs := by
  rcases h with (h | ⟨o, h⟩) | h
  · exact .inl (.inl (s _ _ h))
  · exact .inl (.inr ⟨o, s _ _ h⟩)
  · exact .inr h
mutual
theorem dp_same {K : PySem.W.Frag} {H H' : Hp} (s : Same H H') : ∀ (d : PyData) (x : V), Dp K H x d → Dp K H' x d
  | .none, _, h => by cases h; exact .non
  | .bool _, _, h => by cases h; exact .bl _
  | .int _, _, h => by cases h; exact .int _
  | .str _, _, h => by cases h; exact .str _
  | .list ds, _, h => by
    cases h with
    | lst hs ha => exact .lst (s.seq hs) (dpAll_same s ds _ ha)
  | .tuple ds, _, h => by
    cases h with
    | tup hs ha => exact .tup (SqT_same s hs) (dpAll_same s ds _ ha)
  | .dict _, _, h => by cases h
theorem dpAll_same {K : PySem.W.Frag} {H H' : Hp} (s : Same H H') : ∀ (ds : List PyData) (xs : List V), DpAll K H xs ds → DpAll K H' xs ds
  | [], _, h => by cases h; exact .nil
  | d :: ds, _, h => by
    cases h with
    | cons a b => exact .cons (dp_same s d _ a) (dpAll_same s ds _ b)
end
theorem boot_isi : bootBuiltins "isinstance" = some (.builtin "isinstance") := by decide +kernel
end Sg

set_option Elab.async false
set_option linter.all false
set_option maxRecDepth 100000
set_option maxHeartbeats 4000000
namespace Sg
open PySem PySem.Spec PyProof.Rows L2
open HT
section
variable {prog : Program} {w : World} {A : Around} {E : Value → Shared → Prop} {s : Shared}
/-- t[lo:hi] that takes all of a tuple is the tuple itself -/
theorem tup_all {t sl : Addr} {items : Array Value} {vl vu : Value} {lo hi : Option Int} {Q : Value → Shared → Prop} (ht : IsTup s.heap t items) (hs : s.heap.IsSliceOf sl vl vu .none) (pl : IsPart vl lo) (pu : IsPart vu hi)
    (h1 : sIx items.size 0 lo = 0) (h2 : sIx items.size items.size hi = items.size) (h : Q (.ref t) s) : wpAny (model prog w) A (getItem (.ref t) (.ref sl)) Q E s := by
  obtain ⟨os, hos, hcs, hds⟩ := id hs
  have hTs : s.TypeIs (.ref sl) "slice" := ⟨os, hos, hcs⟩
  unfold getItem
  try with_reducible refine wpAny_holding ?_
  first | refine wpAny_bind (wpAny_pure ?_) | skip
  refine wpAny_bind (wpAny_sequenceKey ht.typeIs (by decide) ?_)
  refine wpAny_bind (wpAny_callSpecial?_slot (name := Str.ofString "__getitem__") ht.typeIs PyProof.Rows.slot_tuple_getitem
    (wpAny_call_entry PyProof.Rows.slot_tuple_getitem ht.typeIs entry_tuple_getitem ?_ (args_tuple_getitem _ _)))
  show wpAny _ _ (Builtin.Tuple.tupleItemsOf (.ref t) >>= _) _ _ s
  refine wpAny_bind (tupleItemsOf_ ht (wpAny_bind (wpAny_typeOf hTs ?_)))
  rw [if_pos (by decide)]
  refine wpAny_bind (sliceApplied_gen hs pl pu ?_)
  rw [h1, h2]
  show wpAny _ _ (if (((0 : Nat) : Int) == 0 && (1 : Int) == 1 && (items.size - 0) == items.size) = true then _ else _) _ _ s
  rw [if_pos (by simp)]
  show wpAny _ _ (Builtin.Tuple.tupleIsExact (.ref t) >>= _) _ _ s
  refine wpAny_bind (m := Builtin.Tuple.tupleIsExact _) ?_
  unfold Builtin.Tuple.tupleIsExact
  refine wpAny_bind (wpAny_typeOf ht.typeIs (wpAny_pure ?_))
  rw [if_pos (by decide)]
  exact wpAny_bind (wpAny_rule (wpAny_pure ⟨_, rfl, wpAny_pure h⟩))
end
section
variable {X : Cx}
/-- t[lo:hi], a part or all of a tuple -/
def rSlA (K : PySem.W.Frag) : V → Option Int → Option Int → Hp → VK → Prop := fun x lo hi H Q => ∃ a xs, x = .ref a ∧ SqT K H a xs ∧ ∀ p H', Same H H' → SqT K H' p (cutV xs lo hi) → Q (.ref p) H'
theorem sl_any : SlR X (rSlA X.K) := by
  intro pins s σ H x v vl vu lo hi sl Q I rx hs pl pu h
  obtain ⟨a, xs, rfl, hx, q⟩ := h
  by_cases hw : sIx xs.length 0 lo = 0 ∧ sIx xs.length xs.length hi = xs.length
  · cases rx
    obtain ⟨its, r, ht, hz⟩ := I.tuple hx
    have hlen : its.toArray.size = xs.length := by rw [List.size_toArray]; exact r.length.symm
    refine ⟨"tuple", _, PyProof.Rows.slot_tuple_getitem.lookup, ht.typeIs, ?_⟩
    refine tup_all ht hs pl pu (by rw [hlen]; exact hw.1) (by rw [hlen]; exact hw.2) ⟨.ref a, H, I, rfl, q a H (Same.refl H) ?_⟩
    have e : cutV xs lo hi = xs := by
      unfold cutV
      rw [hw.1, hw.2]
      simp
    rw [e]
    exact hx
  · exact sl_tup pins s σ H (.ref a) v vl vu lo hi sl Q I rx hs pl pu ⟨a, xs, rfl, hx, hw, fun p hp => q p _ (same_new hp) (SqT.of upd_same)⟩
/-- x is b, x is not b: b True or False -/
def rIsB (neg : Bool) : R2 := fun x y H Q => ∃ b c, y = .bl b ∧ x = .bl c ∧ Q (.bl (if neg then !decide (c = b) else decide (c = b))) H
theorem op_isB : OpR X (compareOp .Is) (rIsB false) := by
  intro pins s σ H x y v u Q I rx ry h
  obtain ⟨b, c, rfl, rfl, q⟩ := h
  cases rx
  cases ry
  have e : (Value.bool c == Value.bool b) = decide (c = b) := by cases b <;> cases c <;> rfl
  exact wpAny_is_plain rfl ⟨.bl (decide (c = b)), H, I, by rw [e]; rfl, q⟩
theorem op_isNotB : OpR X (compareOp .IsNot) (rIsB true) := by
  intro pins s σ H x y v u Q I rx ry h
  obtain ⟨b, c, rfl, rfl, q⟩ := h
  cases rx
  cases ry
  have e : (Value.bool c == Value.bool b) = decide (c = b) := by cases b <;> cases c <;> rfl
  show wpAny _ _ ((isSame (Value.bool c) (Value.bool b)) >>= fun z => pure (Value.bool (!z))) _ _ s
  exact wpAny_bind (wpAny_isSame_plain rfl (wpAny_pure ⟨.bl (!decide (c = b)), H, I, by rw [e]; rfl, q⟩))
end
section
variable {K : PySem.W.Frag} {σ : L2.St} {H1 : Hp} {D a b : Addr} {vs : List Nat} {j1 j2 : Nat} {xs ys : List V} {te : TE} {Qd : Hp → Prop}
theorem lc_zipS (bs : List Bool) (hl : xs.length = ys.length) (hlen : bs.length = xs.length) (hD : H1 D = Option.none) (hx : SqT K H1 a xs) (hy : SqT K H1 b ys) (hw : ∀ x y, wipe (((wipe σ vs).set j1 (some x)).set j2 (some y)) vs = wipe σ vs) (hz : xs.length ≤ 1000)
    (he : ∀ (i : Nat) (x y : V) (bb : Bool) (H' : Hp) (Q' : VK), xs[i]? = some x → ys[i]? = some y → bs[i]? = some bb → Same H1 H' → (∀ H'', Same H' H'' → Q' (.bl bb) H'') → te (((wipe σ vs).set j1 (some x)).set j2 (some y)) H' Q')
    (hd : ∀ H', Same H1 H' → H' D = some (.lst (bs.map V.bl)) → Qd H') :
    ∃ W : Nat → Nat → Hp → Prop, (∃ m, W 0 m (upd H1 D (.lst []))) ∧ ∀ i m H, W i m H →
      ((RZ.ItzT K a b).stop i H ∧ Qd H) ∨ ((RZ.ItzT K a b).go i H ∧ ∃ Nx : Hp → Prop, (∀ H', Nx H' → ∃ m', m' < m ∧ W (i + 1) m' H') ∧ ∀ x H', (RZ.ItzT K a b).yld i H x H' → gTup K 2 (gCons (gName j1) (gCons (gName j2) gNil)) x (wipe σ vs) H' fun σ2 H2 => wipe σ2 vs = wipe σ vs ∧ tYes σ2 H2 fun b H3 =>
        if b = true then te σ2 H3 fun y H4 => ∃ acc, H4 D = some (.lst acc) ∧ acc.length < sizeLine ∧ Nx (upd H4 D (.lst (acc ++ [y]))) else Nx H3) := by
  refine ⟨fun i m H => m = xs.length - i ∧ i ≤ xs.length ∧ Same H1 H ∧ H D = some (.lst ((bs.map V.bl).take i)), ⟨xs.length, by simp, Nat.zero_le _, same_new hD, upd_same⟩, ?_⟩
  rintro i m H ⟨rfl, hi, sm, hDl⟩
  have hxa := SqT_same sm hx
  have hyb := SqT_same sm hy
  by_cases hlt : i < xs.length
  · have hix : xs[i]? = some xs[i] := List.getElem?_eq_getElem hlt
    have hiy : ys[i]? = some (ys[i]'(by omega)) := List.getElem?_eq_getElem (by omega)
    have hib : bs[i]? = some (bs[i]'(by omega)) := List.getElem?_eq_getElem (by omega)
    refine .inr ⟨⟨xs, ys, _, _, hxa, hyb, hix, hiy⟩, fun H' => i + 1 ≤ xs.length ∧ Same H1 H' ∧ H' D = some (.lst ((bs.map V.bl).take (i + 1))), fun H' p' => ⟨xs.length - (i + 1), by omega, rfl, p'⟩, ?_⟩
    rintro x H' ⟨T, x0, y0, rfl, hT, rfl, f1, f2⟩
    have e1 := f1 _ hxa
    have e2 := f2 _ hyb
    have s2 := same_new (o := .tup [x0, y0]) hT
    refine ⟨T, _, rfl, SqT.of upd_same, rfl, _, _, rfl, _, _, rfl, rfl, hw _ _, yesIte ?_⟩
    refine he i x0 y0 _ _ _ e1 e2 hib (sm.trans s2) fun H'' s3 => ⟨_, s3 _ _ (s2 _ _ hDl), ?_, by omega, ?_, ?_⟩
    · rw [List.length_take]; exact small1000 (by omega)
    · intro y o hy'
      rw [upd_ne (ne_of_none hy' hD)]
      exact s3 _ _ (s2 _ _ (sm _ _ hy'))
    · rw [upd_same, List.take_add_one, List.getElem?_map, hib]; rfl
  · have e : i = xs.length := by omega
    refine .inl ⟨⟨xs, ys, hxa, hyb, .inl (by omega)⟩, hd H sm ?_⟩
    rw [hDl, e, List.take_of_length_le (by rw [List.length_map]; omega)]
end
theorem dpAll_len {K : PySem.W.Frag} {H : Hp} : ∀ {xs : List V} {ds : List PyData}, DpAll K H xs ds → xs.length = ds.length
  | _, _, .nil => rfl
  | _, _, .cons _ b => by rw [List.length_cons, List.length_cons, dpAll_len b]
theorem dpAll_cons {K : PySem.W.Frag} {H : Hp} {xs : List V} {d : PyData} {ds : List PyData} (h : DpAll K H xs (d :: ds)) : ∃ x xs', xs = x :: xs' ∧ Dp K H x d ∧ DpAll K H xs' ds := by
  cases h with
  | cons a b => exact ⟨_, _, rfl, a, b⟩
theorem dpAll_nil {K : PySem.W.Frag} {H : Hp} {xs : List V} (h : DpAll K H xs []) : xs = [] := by cases h; rfl
theorem dp_tup {K : PySem.W.Frag} {H : Hp} {x : V} {d : PyData} (h : Dp K H x d) (t : tupB d = true) : ∃ a xs ds, x = .ref a ∧ d = .tuple ds ∧ SqT K H a xs ∧ DpAll K H xs ds := by
  cases h <;> first | exact ⟨_, _, _, rfl, rfl, ‹_›, ‹_›⟩ | cases t
theorem dpAll_get {K : PySem.W.Frag} {H : Hp} : ∀ {xs : List V} {ds : List PyData} {i : Nat} {x : V}, DpAll K H xs ds → xs[i]? = some x → ∃ d, ds[i]? = some d ∧ Dp K H x d
  | _, _, i, x, .nil, h => by simp at h
  | _, _, 0, x, .cons a b, h => ⟨_, rfl, by simp at h; subst h; exact a⟩
  | _, _, i + 1, x, .cons a b, h => by
    obtain ⟨d, e1, e2⟩ := dpAll_get b (i := i) (by simpa using h)
    exact ⟨d, by simpa using e1, e2⟩
theorem cut_take {xs : List V} {n : Nat} (h : n ≤ xs.length) : cutV xs Option.none (some (n : Int)) = xs.take n := by
  unfold cutV
  rw [show HT.sIx xs.length 0 none = 0 from HT.sIx_none _ _, HT.sIx_nat, Nat.min_eq_left h]
  simp
theorem cut_drop {xs : List V} {n : Nat} (h : n ≤ xs.length) : cutV xs (some (n : Int)) Option.none = xs.drop n := by
  unfold cutV
  rw [show HT.sIx xs.length xs.length none = xs.length from HT.sIx_none _ _, HT.sIx_nat, Nat.min_eq_left h]
  exact List.take_of_length_le (by rw [List.length_drop]; omega)
theorem shaped_of {d : PyData} (h : d.canLay0 = true) (h' : d.depth ≤ 64) : SeqAt.shaped d = true := by
  show (d.canLay0 && decide (d.depth ≤ 64)) = true
  rw [Bool.and_eq_true]; exact ⟨h, decide_eq_true h'⟩
abbrev cntL : List Int := [1, 2, 1, 3, 2, 1, 2, 1, 2, 2, 1, 3]
end Sg

set_option Elab.async false
set_option linter.all false
set_option maxRecDepth 100000
set_option maxHeartbeats 4000000
/-! match: patterns by values, what they bind by the names' places -/
namespace Sg
open PySem PySem.Spec PyProof.Rows L2
def BindOk (X : Cx) (b : Str × Value) (c : Nat × V) : Prop := X.N[c.1]? = some b.1 ∧ Loc X.env.scope b.1 ∧ (X.fn b.1 = true ∨ X.env.scope.names.lookup b.1 = some .local) ∧ RelV c.2 b.2
inductive OB (X : Cx) : Option (List (Str × Value)) → Option (List (Nat × V)) → Prop
  | none : OB X none none
  | some {bs cs} : Paired (BindOk X) bs cs → OB X (some bs) (some cs)
abbrev TPt := V → Hp → (Option (List (Nat × V)) → Prop) → Prop
abbrev TPts := List V → Hp → (Option (List (Nat × V)) → Prop) → Prop
structure PPt (X : Cx) (p : Pattern) (t : TPt) : Prop where
  run : ∀ (pins : List (Addr × Obj)) (s : Shared) (σ : L2.St) (H : Hp) (v : V) (u : Value) (Q : Option (List (Nat × V)) → Prop), Inv X pins σ H s → RelV v u → t v H Q →
    wpAny (model X.prog X.w) X.A (matchPattern p X.env u) (fun r s' => ∃ o, Inv X pins σ H s' ∧ OB X r o ∧ Q o) X.xe s
structure PPts (X : Cx) (ps : List Pattern) (t : TPts) : Prop where
  run : ∀ (pins : List (Addr × Obj)) (s : Shared) (σ : L2.St) (H : Hp) (vs : List V) (us : List Value) (Q : Option (List (Nat × V)) → Prop), Inv X pins σ H s → Vals vs us → t vs H Q →
    wpAny (model X.prog X.w) X.A (matchEach ps X.env us) (fun r s' => ∃ o, Inv X pins σ H s' ∧ OB X r o ∧ Q o) X.xe s
def mWild : TPt := fun _ _ Q => Q (some [])
def mCap (i : Nat) : TPt := fun v _ Q => Q (some [(i, v)])
def mStr (x : Str) : TPt := fun v _ Q => ∃ y, v = .str y ∧ Q (if y = x then some [] else none)
def mNone : TPt := fun v _ Q => Q (if v = .non then some [] else none)
def mBool (b : Bool) : TPt := fun v _ Q => ∃ c, v = .bl c ∧ Q (if c = b then some [] else none)
def mNil : TPts := fun _ _ Q => Q (some [])
def mCons (t : TPt) (u : TPts) : TPts := fun vs H Q => ∃ v r, vs = v :: r ∧ t v H fun o => match o with
  | none => Q none
  | some bs => u r H fun o' => match o' with
    | none => Q none
    | some cs => Q (some (bs ++ cs))
def mSeq (K : PySem.W.Frag) (n : Nat) (t : TPts) : TPt := fun v H Q => ∃ a xs, v = .ref a ∧ SqT K H a xs ∧ (xs.length = n → t xs H Q) ∧ (xs.length ≠ n → Q none)
theorem Paired.app {α β : Type} {F : α → β → Prop} : ∀ {a : List α} {b : List β} {c : List α} {d : List β}, Paired F a b → Paired F c d → Paired F (a ++ c) (b ++ d)
  | _, _, _, _, .nil, q => q
  | _, _, _, _, .cons r t, q => .cons r (Paired.app t q)
section
variable {X : Cx}
theorem mp_wild {pos : Pos} : PPt X (.MatchAs none none pos) mWild := ⟨fun pins s σ H v u Q I r h => wpAny_matchPattern_Capture ⟨_, I, .some .nil, h⟩⟩
theorem mp_cap {i : Nat} {x : Str} {pos : Pos} (hi : X.N[i]? = some x) (hx : Loc X.env.scope x) (hf : X.fn x = true ∨ X.env.scope.names.lookup x = some .local := by first | exact .inl rfl | exact .inr rfl | assumption) : PPt X (.MatchAs none (some x) pos) (mCap i) :=
  ⟨fun pins s σ H v u Q I r h => wpAny_matchPattern_Capture ⟨_, I, .some (.cons ⟨hi, hx, hf, r⟩ .nil), h⟩⟩
theorem mp_str {x : Str} {j : Nat} {p pos : Pos} : PPt X (.MatchValue (.Constant (.str x) j p) pos) (mStr x) := by
  refine ⟨fun pins s σ H v u Q I r h => ?_⟩
  obtain ⟨y, rfl, q⟩ := h
  refine wpAny_matchPattern_Value (thn ((pe_str (X := X)).run pins s σ H (fun v' H' => v' = .str x ∧ H' = H) I ⟨rfl, rfl⟩) fun u2 s2 ⟨v2, H2, I2, r2, e2, e3⟩ => ?_)
  subst e2 e3
  refine thn (op_eq (X := X) pins s2 σ H2 (.str y) (.str x) u u2 (fun v' H' => v' = .bl (decide (V.str y = V.str x)) ∧ H' = H2) I2 r r2 ⟨rfl, rfl, rfl⟩) fun c s3 ⟨v3, H3, I3, r3, e4, e5⟩ => ?_
  subst e4 e5
  cases r3
  refine wpAny_truthy_bool ?_
  by_cases e : y = x
  · subst e
    rw [decide_eq_true rfl]
    rw [if_pos rfl] at q
    exact ⟨_, I3, .some .nil, q⟩
  · rw [decide_eq_false (fun z => e (by cases z; rfl))]
    rw [if_neg e] at q
    exact ⟨_, I3, .none, q⟩
theorem mp_none {pos : Pos} : PPt X (.MatchSingleton .none pos) mNone := by
  refine ⟨fun pins s σ H v u Q I r h => ?_⟩
  rw [arm_matchPattern_MatchSingleton]
  refine wpAny_pure ?_
  cases v with
  | non => cases r; exact ⟨_, I, .some .nil, h⟩
  | bl b => cases r; exact ⟨_, I, .none, h⟩
  | int i => obtain ⟨t, rfl⟩ := r; exact ⟨_, I, .none, h⟩
  | str i => obtain ⟨t, rfl⟩ := r; exact ⟨_, I, .none, h⟩
  | byt i => obtain ⟨t, rfl⟩ := r; exact ⟨_, I, .none, h⟩
  | flt i => obtain ⟨t, rfl⟩ := r; exact ⟨_, I, .none, h⟩
  | ref a => cases r; exact ⟨_, I, .none, h⟩
  | ty n => cases r; exact ⟨_, I, .none, h⟩
theorem mp_bool {b : Bool} {pos : Pos} : PPt X (.MatchSingleton (.bool b) pos) (mBool b) := by
  refine ⟨fun pins s σ H v u Q I r h => ?_⟩
  obtain ⟨c, rfl, q⟩ := h
  cases r
  rw [arm_matchPattern_MatchSingleton]
  refine wpAny_pure ?_
  cases b <;> cases c
  · exact ⟨_, I, .some .nil, q⟩
  · exact ⟨_, I, .none, q⟩
  · exact ⟨_, I, .none, q⟩
  · exact ⟨_, I, .some .nil, q⟩
theorem mps_nil : PPts X [] mNil := ⟨fun pins s σ H vs us Q I r h => wpAny_matchEach_nil ⟨_, I, .some .nil, h⟩⟩
theorem mps_cons {p : Pattern} {ps : List Pattern} {t : TPt} {u : TPts} (h1 : PPt X p t) (h2 : PPts X ps u) (hp : p.isStar = false := by rfl) : PPts X (p :: ps) (mCons t u) := by
  refine ⟨fun pins s σ H vs us Q I r h => ?_⟩
  obtain ⟨v, vr, rfl, h⟩ := h
  cases r with
  | cons r0 rr =>
    refine wpAny_matchEach_cons (thn (h1.run pins s σ H v _ _ I r0 h) fun r1 s1 ⟨o, I1, ob, q⟩ => ?_) hp
    cases ob with
    | none => exact ⟨_, I1, .none, q⟩
    | some pr =>
      refine thn (h2.run pins s1 σ H vr _ _ I1 rr q) fun r2 s2 ⟨o2, I2, ob2, q2⟩ => ?_
      cases ob2 with
      | none => exact ⟨_, I2, .none, q2⟩
      | some pr2 => exact ⟨_, I2, .some (Paired.app pr pr2), q2⟩
theorem mp_seq {ps : List Pattern} {pos : Pos} {t : TPts} {n : Nat} (hc : X.calm = true) (hs : PPts X ps t) (hn : ps.length = n := by rfl) (hstar : ps.findIdx? (·.isStar) = none := by rfl)
    (hwild : (ps.all fun p => p.isWildcard || (p.isStar && p.names.isEmpty)) = false := by rfl) : PPt X (.MatchSequence ps pos) (mSeq X.K n t) := by
  refine ⟨fun pins s σ H v u Q I r h => ?_⟩
  obtain ⟨a, xs, rfl, hq, h1, h2⟩ := h
  cases r
  obtain ⟨its, rv, ht, hz⟩ := I.tuple hq
  have hl : its.toArray.size = xs.length := by rw [List.size_toArray]; exact rv.length.symm
  have h63 := line63
  by_cases e : xs.length = n
  · refine matchSeq_tuple_hit ht (by rw [hl]; omega) (by rw [hl, hn]; exact e) ?_ hstar hwild
    rw [show ps.length = its.toArray.size by rw [hl, hn, e]]
    have I1 : Inv X pins σ H { s with toks := s.toks + 1 + 1 } := I.tok _
    refine unpackItems_tuple (I.ok.hd hc) ht fun h' hx => ?_
    have I2 : Inv X pins σ H { s with heap := h', toks := s.toks + 1 + 1 } := I.kept (t' := s.toks + 1 + 1) fun b o e => hx b o (Nat.ne_of_lt (Heap.lt_size e)) e
    exact hs.run pins _ σ H xs _ Q I2 rv (h1 e)
  · exact matchSeq_tuple_miss ht (by rw [hl]; omega) (by rw [hl, hn]; exact e) ⟨_, I.tok _, .none, h2 e⟩ hstar hwild
/-! ### the cases -/
abbrev TCs := V → TS
structure PCs (X : Cx) (cs : List MatchCase) (t : TCs) : Prop where
  run : ∀ (pins : List (Addr × Obj)) (s : Shared) (σ : L2.St) (H : Hp) (D : Ends) (v : V) (u : Value) (first : Bool), Inv X pins σ H s → RelV v u → t v D σ H →
    wpAny (model X.prog X.w) X.A (matchCases cs X.env u first) (SP X pins D) X.xe s
def setAll (σ : L2.St) (bs : List (Nat × V)) : L2.St := bs.foldl (fun s b => s.set b.1 (some b.2)) σ
def cNil : TCs := fun _ D σ H => D.nx σ H
def cCons (tp : TPt) (tb : TS) (rest : TCs) : TCs := fun v D σ H => tp v H fun o => match o with
  | none => rest v D σ H
  | some bs => tb D (setAll σ bs) H
theorem pcs_nil : PCs X [] cNil := ⟨fun pins s σ H D v u f I r h => wpAny_matchCases_nil ⟨σ, H, I, h⟩⟩
theorem bind_all (hN : X.N.Nodup) {pins : List (Addr × Obj)} {H : Hp} : ∀ {bs : List (Str × Value)} {cs : List (Nat × V)}, Paired (BindOk X) bs cs → ∀ {σ : L2.St} {s : Shared} {Q : Unit → Shared → Prop}, Inv X pins σ H s →
    (∀ s', Inv X pins (setAll σ cs) H s' → Q () s') → wpAny (model X.prog X.w) X.A (assignInOrder (bs.map fun (n, _) => bindName X.env n) (bs.map (·.2))) Q X.xe s
  | _, _, .nil, σ, s, Q, I, h => wpAny_assignInOrder_none (h s I)
  | _, _, .cons (a := b) (b := c) r t, σ, s, Q, I, h => by
    obtain ⟨x, u⟩ := b
    obtain ⟨i, v⟩ := c
    obtain ⟨h1, h2, h3, h4⟩ := r
    refine wpAny_assignInOrder_more (wpAny_bindName (store_ok I hN h1 h2 h4 (fun s' I' => ?_) h3))
    exact bind_all hN t I' h
theorem pcs_cons {p : Pattern} {body : List Stmt} {rest : List MatchCase} {tp : TPt} {tb : TS} {tr : TCs} (hN : X.N.Nodup) (hp : PPt X p tp) (hb : PSs X body tb) (hr : PCs X rest tr) : PCs X (⟨p, none, body⟩ :: rest) (cCons tp tb tr) := by
  refine ⟨fun pins s σ H D v u f I r h => ?_⟩
  refine wpAny_matchCases_cons (thn (hp.run pins s σ H v u _ I r h) fun o s1 ⟨c, I1, ob, q⟩ => ?_)
  cases ob with
  | none => exact hr.run pins s1 σ H D v u false I1 r q
  | some pr => exact bind_all hN pr I1 fun s' I' => hb.run pins s' _ H D I' q
def tMatch (te : TE) (tc : TCs) : TS := fun D σ H => te σ H fun v H1 => tc v D σ H1
theorem ps_match {e : Expr} {cs : List MatchCase} {pos : Pos} {te : TE} {tc : TCs} (he : PE X e te) (hc : PCs X cs tc) : PS X (.Match e cs pos) (tMatch te tc) := by
  refine ⟨fun pins s σ H D I h => ?_⟩
  exact wpAny_Match (thn (he.run pins s σ H _ I h) fun u s1 ⟨v, H1, I1, r1, q1⟩ => hc.run pins s1 σ H1 D v u true I1 r1 q1)
/-- a case with a guard -/
def cGuard (tp : TPt) (tg : TT) (tb : TS) (rest : TCs) : TCs := fun v D σ H => tp v H fun o => match o with
  | none => rest v D σ H
  | some bs => tg (setAll σ bs) H fun ok H' => if ok = true then tb D (setAll σ bs) H' else rest v D (setAll σ bs) H'
theorem pcs_guard {p : Pattern} {ge : Expr} {body : List Stmt} {rest : List MatchCase} {tp : TPt} {tg : TT} {tb : TS} {tr : TCs} (hN : X.N.Nodup) (hp : PPt X p tp) (hg : PT X ge tg) (hb : PSs X body tb) (hr : PCs X rest tr) : PCs X (⟨p, some ge, body⟩ :: rest) (cGuard tp tg tb tr) := by
  refine ⟨fun pins s σ H D v u f I r h => ?_⟩
  refine wpAny_matchCases_cons (thn (hp.run pins s σ H v u _ I r h) fun o s1 ⟨c, I1, ob, q⟩ => ?_)
  cases ob with
  | none => exact hr.run pins s1 σ H D v u false I1 r q
  | some pr =>
    refine bind_all hN pr I1 fun s' I' => ?_
    refine thn (hg.run pins s' _ H _ I' q) fun ok s2 ⟨H2, I2, q2⟩ => ?_
    cases ok with
    | true =>
      rw [if_pos rfl] at q2
      exact hb.run pins s2 _ H2 D I2 q2
    | false =>
      rw [if_neg Bool.false_ne_true] at q2
      exact hr.run pins s2 _ H2 D v u false I2 r q2
def mInt (n : Int) : TPt := fun v _ Q => ∃ y, v = .int y ∧ Q (if y = n then some [] else none)
theorem mp_int {n : Int} {j : Nat} {p pos : Pos} : PPt X (.MatchValue (.Constant (.int n) j p) pos) (mInt n) := by
  refine ⟨fun pins s σ H v u Q I r h => ?_⟩
  obtain ⟨y, rfl, q⟩ := h
  refine wpAny_matchPattern_Value (thn ((pe_int (X := X)).run pins s σ H (fun v' H' => v' = .int n ∧ H' = H) I ⟨rfl, rfl⟩) fun u2 s2 ⟨v2, H2, I2, r2, e2, e3⟩ => ?_)
  subst e2 e3
  refine thn (op_eq (X := X) pins s2 σ H2 (.int y) (.int n) u u2 (fun v' H' => v' = .bl (decide (V.int y = V.int n)) ∧ H' = H2) I2 r r2 ⟨rfl, rfl, rfl⟩) fun c s3 ⟨v3, H3, I3, r3, e4, e5⟩ => ?_
  subst e4 e5
  cases r3
  refine wpAny_truthy_bool ?_
  by_cases e : y = n
  · subst e
    rw [decide_eq_true rfl]
    rw [if_pos rfl] at q
    exact ⟨_, I3, .some .nil, q⟩
  · rw [decide_eq_false (fun z => e (by cases z; rfl))]
    rw [if_neg e] at q
    exact ⟨_, I3, .none, q⟩
end
end Sg

set_option Elab.async false
set_option linter.all false
set_option maxRecDepth 100000
set_option maxHeartbeats 4000000
/-! tuples without a dict of their own; dict(t) of such; x in t of data; d != {} -/
namespace Sg
open PySem PySem.Spec PyProof.Rows L2
def SqP (K : PySem.W.Frag) (H : Hp) (a : Addr) (xs : List V) : Prop :=
  (∃ o : Obj, H a = some (.frz o (.tup xs)) ∧ o.dict = none) ∨
    ∃ (o : Obj) (its : Array Value) (n : Nat), K.lookup a = some o ∧ o.cls = .type "tuple" ∧ o.dict = none ∧ o.data = .seq its n ∧ its.size ≤ sizeLine ∧ Vals xs its.toList
theorem SqP.t {K : PySem.W.Frag} {H : Hp} {a : Addr} {xs : List V} (h : SqP K H a xs) : SqT K H a xs := by
  rcases h with ⟨o, h, _⟩ | ⟨o, its, n, h1, h2, _, h3, h4, h5⟩
  · exact .inl (.inr ⟨o, h⟩)
  · exact .inr ⟨o, its, n, h1, h2, h3, h4, h5⟩
theorem SqP.plain {X : Cx} {pins : List (Addr × Obj)} {σ : L2.St} {H : Hp} {s : Shared} {a : Addr} {xs : List V} (I : Inv X pins σ H s) (h : SqP X.K H a xs) : ∃ its : List Value, Vals xs its ∧ PlainSeq "tuple" s.heap a its.toArray ∧ xs.length ≤ sizeLine := by
  rcases h with ⟨o, h, hd⟩ | ⟨o, its, n, h1, h2, hd, h3, h4, h5⟩
  · obtain ⟨e, z, its, r, o', e', hc, n, hdat⟩ := I.hok a _ h
    rw [e] at e'; cases e'
    exact ⟨its, r, ⟨o, n, e, hc, hd, hdat⟩, z⟩
  · refine ⟨its.toList, h5, ⟨o, n, I.kIn a o h1, h2, hd, by simpa using h3⟩, ?_⟩
    have e := h5.length
    simp only [Array.length_toList] at e
    omega
section
variable {X : Cx}
theorem pairs_of2 {pins : List (Addr × Obj)} {σ : L2.St} {H : Hp} {s : Shared} (I : Inv X pins σ H s) : ∀ {ps : List Addr} {kvs : List (Key × V)}, Paired (fun p kv => SqT X.K H p [kV kv.1, kv.2]) ps kvs →
    ∃ (prs : List (Key × Value)) (us : List (Value × Value)), KV kvs prs ∧ prs.length = ps.length ∧ us.length = ps.length ∧ ∀ (j : Nat) (k v : Value), us[j]? = some (k, v) → (∃ b : Addr, ps[j]? = some b ∧ IsTup s.heap b #[k, v]) ∧ ∃ key, prs[j]? = some (key, v) ∧ keyIs key k = true
  | _, _, .nil => ⟨[], [], .nil, rfl, rfl, fun j k v e => by simp at e⟩
  | _, _, .cons (a := p) (b := kv) h t => by
    obtain ⟨prs, us, r, hl, hl2, hp⟩ := pairs_of2 I t
    obtain ⟨its, rv, ht, _⟩ := I.tuple h
    obtain ⟨u, y, ei, ru, ry⟩ := vals2 rv
    subst ei
    refine ⟨(kv.1, y) :: prs, (u, y) :: us, .cons ⟨rfl, ry⟩ r, by rw [List.length_cons, List.length_cons, hl], by rw [List.length_cons, List.length_cons, hl2], fun j k v e => ?_⟩
    cases j with
    | zero =>
      have e' : (u, y) = (k, v) := Option.some.inj e
      cases e'
      exact ⟨⟨p, rfl, ht⟩, kv.1, rfl, kV_is (P := X.prog) (w := X.w) ru⟩
    | succ j =>
      obtain ⟨⟨b, e1, e2⟩, key, e3, e4⟩ := hp j k v (by simpa using e)
      exact ⟨⟨b, by simpa using e1, e2⟩, key, by simpa using e3, e4⟩
def rDictT (K : PySem.W.Frag) : List V → Hp → VK → Prop := fun xs H Q => ∃ (a : Addr) (ps : List Addr) (kvs : List (Key × V)), xs = [.ref a] ∧ SqP K H a (ps.map V.ref) ∧ Paired (fun p kv => SqT K H p [kV kv.1, kv.2]) ps kvs ∧
    ∀ p, H p = none → Q (.ref p) (upd H p (.dK (mergeK [] kvs)))
/-- dict(t) of a tuple of pairs -/
theorem call_dictT (hcalm : X.calm = true) : CallR X (.type "dict") (rDictT X.K) := by
  intro pins s σ H xs us Q I r q
  obtain ⟨a, ps, kvs, ex, hq, hp, q⟩ := q
  subst ex
  obtain ⟨u, eu, rx⟩ := vals1 r
  subst eu
  cases rx
  obtain ⟨its, rv, pl, hz⟩ := hq.plain I
  have ei := refs_at rv
  subst ei
  rw [List.length_map] at hz
  obtain ⟨prs, us2, rel, hl, hl2, hpr⟩ := pairs_of2 I hp
  have hh := I.ok.hd hcalm
  refine PySem.call_dict_pairs (knd := mixKind X.prog X.w) (kvs := prs) (PairArg.tuple a (ps.map Value.ref).toArray (fun j => ps.getD j 0) us2) hh ⟨pl, ?_, fun j k v e => ?_⟩ ⟨?_, fun j k v e => ?_⟩ ?_ fun h' tk hd' k => ?_
  · simp [hl2]
  · obtain ⟨⟨b, e1, e2⟩, _⟩ := hpr j k v e
    have e3 : ps.getD j 0 = b := by rw [List.getD_eq_getElem?_getD, e1]; rfl
    show _ = some (Value.ref (ps.getD j 0)) ∧ PairAt s.heap (ps.getD j 0) k v
    rw [e3]
    refine ⟨by simp [e1], .inl e2⟩
  · rw [hl, hl2]
  · obtain ⟨_, key, e3, e4⟩ := hpr j k v e
    exact ⟨key, e3, e4⟩
  · rw [hl2]; exact hz
  · have hm : (s.heap.objs.size == sysModules) = false := beq_eq_false_iff_ne.mpr (Nat.ne_of_gt I.big)
    have hlen : (mergeK [] kvs).length ≤ sizeLine := by
      refine Nat.le_trans (length_mergeK kvs []) ?_
      rw [List.length_nil, Nat.zero_add, rel.length, hl]
      exact hz
    exact ⟨.ref s.heap.objs.size, upd H s.heap.objs.size (.dK (mergeK [] kvs)), I.laid (t' := tk) (fun b o e => k b o (by simp) e) (Nat.le_refl _) (show ObjOk X.prog X.w _ _ _ (.dK (mergeK [] kvs)) from ⟨hlen, hm, merged [] prs, KV.merge rel .nil, hd'⟩), rfl, q _ (I.hok.fresh (Nat.le_refl _))⟩
/-- tuple(l) of a list: a new tuple without a dict of its own -/
def rTupP (K : PySem.W.Frag) : List V → Hp → VK → Prop := fun xs H Q => ∃ p ys, xs = [.ref p] ∧ SqL K H p ys ∧ ∀ (l : Addr) (o : Obj), H l = none → o.dict = none → Q (.ref l) (upd H l (.frz o (.tup ys)))
theorem call_tupP : CallR X (.type "tuple") (rTupP X.K) := by
  intro pins s σ H xs us Q I r h
  obtain ⟨p, ys, rfl, hq, q⟩ := h
  obtain ⟨u, rfl, rx⟩ := vals1 r
  cases rx
  obtain ⟨its, r', pl, hz⟩ := I.list hq
  have hlen := r'.length
  refine call_tuple_list pl.isList (fun h' kp => ?_) (by simp only [List.size_toArray] <;> omega)
  have I1 : Inv X pins σ H { s with heap := h' } := I.kept (t' := s.toks) kp
  have hget : (h'.push { cls := .type "tuple", data := .seq its.toArray }).get? h'.objs.size = some { cls := .type "tuple", data := .seq its.toArray } := Heap.get?_push_size _ rfl
  have I2 : Inv X pins σ (upd H h'.objs.size (.frz { cls := .type "tuple", data := .seq its.toArray } (.tup ys))) { s with heap := h'.push { cls := .type "tuple", data := .seq its.toArray } } :=
    I1.laid (t' := s.toks) (fun b o e => Heap.get?_push_of_some _ e) (Nat.le_refl _) (show ObjOk X.prog X.w _ _ _ (.frz { cls := .type "tuple", data := .seq its.toArray } (.tup ys)) from ⟨hget, hz, its, r', IsTup.new _ _⟩)
  exact ⟨.ref h'.objs.size, _, I2, rfl, q _ _ (I1.hok.fresh (Nat.le_refl _)) rfl⟩
/-- x in t, data of any depth -/
def rInT (K : PySem.W.Frag) : R2 := fun x y H Q => ∃ d ds, Dp K H x d ∧ Dp K H y (.tuple ds) ∧ SeqAt.shaped d = true ∧ SeqAt.shaped (.tuple ds) = true ∧ Q (.bl (ds.any fun z => PyData.eqv z d)) H
theorem op_inT (hu : X.A.units + 65 < cLine) : OpR X (compareOp .In) (rInT X.K) := by
  intro pins s σ H x y v u Q I rx ry h
  obtain ⟨d, ds, hd, he, sd, se, q⟩ := h
  obtain ⟨as, r1⟩ := Dp.reads I d x v hd rx
  obtain ⟨bs, r2⟩ := Dp.reads I (.tuple ds) y u he ry
  exact SeqAt.in_tuple_reads r2 r1 (SeqAt.canLay_of_shaped se) (SeqAt.canLay_of_shaped sd) (room_in_shaped sd hu) ⟨.bl _, H, I, rfl, q⟩
/-- d != {} -/
def rNeE : R2 := fun x y H Q => ∃ a b ks, x = .ref a ∧ y = .ref b ∧ H a = some (.dK ks) ∧ H b = some (.dK []) ∧ Q (.bl (!ks.isEmpty)) H
theorem op_neE (hu : X.A.units < cLine) : OpR X (compareOp .NotEq) rNeE := by
  intro pins s σ H x y v u Q I rx ry h
  obtain ⟨a, b, ks, rfl, rfl, ea, eb, q⟩ := h
  obtain rfl : v = Value.ref a := rx
  obtain rfl : u = Value.ref b := ry
  obtain ⟨_, ya, va, ra, da⟩ := (show ObjOk X.prog X.w H s.heap a (.dK ks) from I.hok a _ ea)
  obtain ⟨_, yb, vb, rb, db⟩ := (show ObjOk X.prog X.w H s.heap b (.dK []) from I.hok b _ eb)
  cases rb
  cases ra with
  | nil => exact PySem.W.keq_ne (knd := mixKind X.prog X.w) (r := true) ya yb da db hu (fun _ => hits_all (ks := []) (kvs := []) .nil .nil (fun p hp => nomatch hp)) (fin_bl I q (by simp))
  | cons h t => exact PySem.W.keq_ne (knd := mixKind X.prog X.w) (r := true) ya yb da db hu (fun e => by simp at e) (fin_bl I q (by simp))
end
end Sg

set_option Elab.async false
set_option linter.all false
set_option maxRecDepth 100000
set_option maxHeartbeats 4000000
namespace Sg
open PySem PySem.Spec PyProof.Rows L2
theorem cut_head {x1 x2 x3 x4 x5 : V} {r : List V} : cutV (x1 :: x2 :: x3 :: x4 :: x5 :: r) Option.none (some 5) = [x1, x2, x3, x4, x5] := by
  unfold cutV
  rw [show HT.sIx (x1 :: x2 :: x3 :: x4 :: x5 :: r).length 0 none = 0 from HT.sIx_none _ _, show (some (5 : Int)) = some ((5 : Nat) : Int) from rfl, HT.sIx_nat]
  rw [Nat.min_eq_left (by simp only [List.length_cons]; omega)]
  rfl
theorem cut_tail {x1 x2 x3 x4 x5 : V} {r : List V} : cutV (x1 :: x2 :: x3 :: x4 :: x5 :: r) (some 5) Option.none = r := by
  unfold cutV
  rw [show HT.sIx (x1 :: x2 :: x3 :: x4 :: x5 :: r).length (x1 :: x2 :: x3 :: x4 :: x5 :: r).length none = (x1 :: x2 :: x3 :: x4 :: x5 :: r).length from HT.sIx_none _ _, show (some (5 : Int)) = some ((5 : Nat) : Int) from rfl, HT.sIx_nat]
  rw [Nat.min_eq_left (by simp only [List.length_cons]; omega)]
  show (r.take _) = r
  exact List.take_of_length_le (by simp only [List.length_cons]; omega)
theorem cut_two {x1 x2 : V} {r : List V} : cutV (x1 :: x2 :: r) Option.none (some 2) = [x1, x2] := by
  unfold cutV
  rw [show HT.sIx (x1 :: x2 :: r).length 0 none = 0 from HT.sIx_none _ _, show (some (2 : Int)) = some ((2 : Nat) : Int) from rfl, HT.sIx_nat]
  rw [Nat.min_eq_left (by simp only [List.length_cons]; omega)]
  rfl
def answD (k : Str) (o : Int) : PyData := if k = "mark" then .none else if strIn k ["snap", "register"] = true then .tuple [.str "ok", .int o] else .tuple [.str "ok", .none]
def spFieldsOf (K : PySem.W.Frag) : Sp := fun vs H Q _ => ∃ (a : Addr) (x1 x2 x3 x4 x5 : V) (ys : List V), vs = [.ref a] ∧ SqT K H a (x1 :: x2 :: x3 :: x4 :: x5 :: ys) ∧ ∀ p H', Same H H' → SqT K H' p ys → Q (.ref p) H'
/-- the answer of a record, as data -/
def spAnswerOf (K : PySem.W.Frag) : Sp := fun vs H Q _ => ∃ (a : Addr) (o : Int) (k : Str) (r : List V), vs = [.ref a] ∧ SqT K H a (.int o :: .str k :: r) ∧ ∀ v H', Same H H' → Dp K H' v (answD k o) → Q v H'
/-! ### records and their effects, as data -/
inductive Bd
  | mark (d : PyData) | make (n z : Int) | remove (n : Int) | write (n p v : Int) | trim (n p : Int) | snap (n : Int) | drop (n s : Int) | register (n : Int)
  | leave (n : Int) (held : Bool) | reserve (n : Int) (w : Str) | release (n : Int) | preempt (n v : Int) (w : Option Str)
structure Rc where
  o : Int
  h : Int
  s : Int
  c : Int
  b : Bd
def wayD : Option Str → PyData
  | none => .none
  | some w => .str w
def kindS : Bd → Str
  | .mark _ => "mark" | .make _ _ => "make" | .remove _ => "remove" | .write _ _ _ => "write" | .trim _ _ => "trim" | .snap _ => "snap" | .drop _ _ => "drop" | .register _ => "register"
  | .leave _ _ => "leave" | .reserve _ _ => "reserve" | .release _ => "release" | .preempt _ _ _ => "preempt"
def fldD : Bd → List PyData
  | .mark d => [d] | .make n z => [.int n, .int z] | .remove n => [.int n] | .write n p v => [.int n, .int p, .int v] | .trim n p => [.int n, .int p] | .snap n => [.int n] | .drop n s => [.int n, .int s] | .register n => [.int n]
  | .leave n b => [.int n, .bool b] | .reserve n w => [.int n, .str w] | .release n => [.int n] | .preempt n v w => [.int n, .int v, wayD w]
abbrev Ef := List Key × PyData
def effB (o h : Int) : Bd → List Ef
  | .mark d => [([.inr "told", .inl h], d)]
  | .make n z => [([.inr "space", .inl n], .int z)]
  | .remove n => [([.inr "gone", .inl n], .int o)]
  | .write n p v => [([.inr "place", .inl n, .inl p], .int v)]
  | .trim n p => [([.inr "place", .inl n, .inl p], .none)]
  | .snap n => [([.inr "snap", .inl n, .inl o], .int o)]
  | .drop n s => [([.inr "snap", .inl n, .inl s], .none)]
  | .register n => [([.inr "key", .inl n, .inl h], .int o)]
  | .leave n false => [([.inr "key", .inl n, .inl h], .none)]
  | .leave n true => [([.inr "key", .inl n, .inl h], .none), ([.inr "hold", .inl n], .none)]
  | .reserve n w => [([.inr "hold", .inl n], .tuple [.int h, .str w])]
  | .release n => [([.inr "hold", .inl n], .none)]
  | .preempt n v none => [([.inr "key", .inl n, .inl v], .none)]
  | .preempt n v (some w) => [([.inr "key", .inl n, .inl v], .none), ([.inr "hold", .inl n], .tuple [.int h, .str w])]
def effH (r : Rc) : Ef := ([.inr "host", .inl r.h], .tuple [.int r.s, .int r.c, answD (kindS r.b) r.o])
def effR (r : Rc) : List Ef := effH r :: effB r.o r.h r.b
def RecAt (K : PySem.W.Frag) (H : Hp) (t : Addr) (r : Rc) : Prop := ∃ ys, SqT K H t (.int r.o :: .str (kindS r.b) :: .int r.h :: .int r.s :: .int r.c :: ys) ∧ DpAll K H ys (fldD r.b)
def EffAt (K : PySem.W.Frag) (H : Hp) (p : Addr) (e : Ef) : Prop := ∃ t v, H p = some (.tup [.ref t, v]) ∧ H t = some (.tup (e.1.map kV)) ∧ Dp K H v e.2
theorem EffAt.same {K : PySem.W.Frag} {H H' : Hp} {p : Addr} {e : Ef} (h : EffAt K H p e) (s : Same H H') : EffAt K H' p e := by
  obtain ⟨t, v, a, b, c⟩ := h
  exact ⟨t, v, s _ _ a, s _ _ b, dp_same s _ _ c⟩
theorem RecAt.same {K : PySem.W.Frag} {H H' : Hp} {t : Addr} {r : Rc} (h : RecAt K H t r) (s : Same H H') : RecAt K H' t r := by
  obtain ⟨ys, a, b⟩ := h
  exact ⟨ys, SqT_same s a, dpAll_same s _ _ b⟩
theorem Paired.imp2 {α β : Type} {F G : α → β → Prop} (f : ∀ a b, F a b → G a b) : ∀ {l : List α} {m : List β}, Paired F l m → Paired G l m
  | _, _, .nil => .nil
  | _, _, .cons r t => .cons (f _ _ r) (Paired.imp2 f t)
theorem dp_int {K : PySem.W.Frag} {H : Hp} {x : V} {n : Int} (h : Dp K H x (.int n)) : x = .int n := by cases h; rfl
theorem dp_strv {K : PySem.W.Frag} {H : Hp} {x : V} {n : Str} (h : Dp K H x (.str n)) : x = .str n := by cases h; rfl
theorem dp_bool {K : PySem.W.Frag} {H : Hp} {x : V} {n : Bool} (h : Dp K H x (.bool n)) : x = .bl n := by cases h; rfl
theorem dp_none {K : PySem.W.Frag} {H : Hp} {x : V} (h : Dp K H x .none) : x = .non := by cases h; rfl
/-- one effect (topic, value) made anew -/
theorem eff_one {K : PySem.W.Frag} {σ : L2.St} {H : Hp} {tk : TA} {tv : TE} {k : List Key} {d : PyData} {Q : VK} (hn : k.length ≤ 3) (hk : ∀ R : List V → Hp → Prop, R (k.map kV) H → tk σ H R)
    (hv : ∀ H' (R : VK), Same H H' → (∀ H'' v, Same H' H'' → Dp K H'' v d → R v H'') → tv σ H' R) (q : ∀ p H', Same H H' → EffAt K H' p (k, d) → Q (.ref p) H') : tTup (tCons (tTup tk) (tCons tv tNil)) σ H Q := by
  refine hk _ ⟨by rw [List.length_map]; exact Nat.le_of_lt (small1000 (by omega)), fun t ht => ?_⟩
  have s1 := same_new (o := .tup (k.map kV)) ht
  refine hv _ _ s1 fun H2 v s2 hd => ⟨by show 2 ≤ sizeLine; decide, fun p hp => ?_⟩
  have s3 := same_new (o := .tup [V.ref t, v]) hp
  exact q p _ (s1.trans (s2.trans s3)) ⟨t, v, upd_same, s3 _ _ (s2 _ _ upd_same), dp_same s3 _ _ hd⟩
theorem eff_list1 {K : PySem.W.Frag} {σ : L2.St} {H : Hp} {te : TE} {e : Ef} {Q : VK} (h : ∀ R : VK, (∀ p H', Same H H' → EffAt K H' p e → R (.ref p) H') → te σ H R) (q : ∀ l (ps : List Addr) H', Same H H' → H' l = some (.lst (ps.map V.ref)) → Paired (EffAt K H') ps [e] → Q (.ref l) H') :
    tLst (tCons te tNil) σ H Q := by
  refine h _ fun p H1 s1 e1 => ⟨by show 1 ≤ sizeLine; decide, fun l hl => ?_⟩
  have s2 := same_new (o := .lst [V.ref p]) hl
  exact q l [p] _ (s1.trans s2) upd_same (.cons (e1.same s2) .nil)
theorem eff_list2 {K : PySem.W.Frag} {σ : L2.St} {H : Hp} {te tf : TE} {e f : Ef} {Q : VK} (h : ∀ R : VK, (∀ p H', Same H H' → EffAt K H' p e → R (.ref p) H') → te σ H R) (h2 : ∀ H1 (R : VK), Same H H1 → (∀ p H', Same H1 H' → EffAt K H' p f → R (.ref p) H') → tf σ H1 R)
    (q : ∀ l (ps : List Addr) H', Same H H' → H' l = some (.lst (ps.map V.ref)) → Paired (EffAt K H') ps [e, f] → Q (.ref l) H') : tLst (tCons te (tCons tf tNil)) σ H Q := by
  refine h _ fun p H1 s1 e1 => h2 _ _ s1 fun p2 H2 s2 e2 => ⟨by show 2 ≤ sizeLine; decide, fun l hl => ?_⟩
  have s3 := same_new (o := .lst [V.ref p, V.ref p2]) hl
  exact q l [p, p2] _ (s1.trans (s2.trans s3)) upd_same (.cons (e1.same (s2.trans s3)) (.cons (e2.same s3) .nil))
theorem mS_hit {x k : Str} {H : Hp} {Q : Option (List (Nat × V)) → Prop} (e : k = x) (h : Q (some [])) : mStr x (.str k) H Q := ⟨k, rfl, by rw [if_pos e]; exact h⟩
theorem mB_hit {b : Bool} {H : Hp} {Q : Option (List (Nat × V)) → Prop} (h : Q (some [])) : mBool b (.bl b) H Q := ⟨b, rfl, by rw [if_pos rfl]; exact h⟩
theorem mB_miss {b c : Bool} {H : Hp} {Q : Option (List (Nat × V)) → Prop} (e : ¬ c = b) (h : Q none) : mBool b (.bl c) H Q := ⟨c, rfl, by rw [if_neg e]; exact h⟩
theorem mN_hit {H : Hp} {Q : Option (List (Nat × V)) → Prop} (h : Q (some [])) : mNone .non H Q := by unfold mNone; rw [if_pos rfl]; exact h
theorem mN_miss {v : V} {H : Hp} {Q : Option (List (Nat × V)) → Prop} (e : ¬ v = .non) (h : Q none) : mNone v H Q := by unfold mNone; rw [if_neg e]; exact h
theorem fld_len (b : Bd) : (fldD b).length ≤ 3 := by cases b <;> simp [fldD]
/-! ### skipping a case -/
theorem skip {K : PySem.W.Frag} {n : Nat} {x k : Str} {u : TPts} {tb : TS} {rest : TCs} {a : Addr} {ys : List V} {D : Ends} {σ : L2.St} {H : Hp} (hs : SqT K H a (.str k :: ys)) (hne : ¬ k = x) (h : rest (.ref a) D σ H) : cCons (mSeq K n (mCons (mStr x) u)) tb rest (.ref a) D σ H := by
  refine ⟨a, _, rfl, hs, fun _ => ⟨_, _, rfl, k, rfl, ?_⟩, fun _ => h⟩
  rw [if_neg hne]; exact h
def spEffKind (K : PySem.W.Frag) : Sp := fun vs H Q _ => ∃ (o h : Int) (p : Addr) (b : Bd) (ys : List V), vs = [.int o, .str (kindS b), .int h, .ref p] ∧ SqT K H p ys ∧ DpAll K H ys (fldD b) ∧
  ∀ l (ps : List Addr) H', Same H H' → H' l = some (.lst (ps.map V.ref)) → Paired (EffAt K H') ps (effB o h b) → Q (.ref l) H'
def spEffects (K : PySem.W.Frag) : Sp := fun vs H Q _ => ∃ (t : Addr) (r : Rc), vs = [.ref t] ∧ RecAt K H t r ∧
  ∀ l (ps : List Addr) H', Same H H' → H' l = some (.lst (ps.map V.ref)) → Paired (EffAt K H') ps (effR r) → Q (.ref l) H'
section
variable {P : Program} {wrl : World} {K : PySem.W.Frag} {mg : Str → Option Value} {base : Heap} {f fA fE fF aK aF : Addr} {fd fdA fdE fdF : FuncData}
abbrev EKN : List Str := ["order","kind","host","fields","told","namespace","size","place","content","snapshot","way","victim"]
theorem scEffKind : FnScope EKN ["order", "kind", "host", "fields"] (defScope sEffKind) := ⟨rfl, rfl, rfl, by decide +kernel, rfl, by decide +kernel, by decide +kernel⟩
theorem ok_effKind (F : Fun K "_effects_of_kind" "_effects_of_kind" sEffKind f fd) : FnOk P wrl K mg base CX0 1 f fd ["order", "kind", "host", "fields"] (spEffKind K) := by
  refine F.ok scEffKind (fun vs H Q E h => ?_) (fun cdv A outer s H vs Q E hr h => ?_)
  · obtain ⟨o, h, p, b, ys, rfl, _⟩ := h
    rfl
  · obtain ⟨o, h, p, b, ys, rfl, hp, hd, q⟩ := h
    refine ⟨_, (pss_one (ps_match (pe_tup (pa_cons (pv 1) (StX.pa_star (pv 3) pa_nil))) (pcs_cons scEffKind.nd (mp_seq (n := 2) rfl (mps_cons mp_str (mps_cons (mp_cap (i := 4) rfl (Or.inl rfl)) mps_nil)))
        (pss_one (ps_ret (pe_lst (pa_cons (pe_tup (pa_cons (pe_tup (pa_cons pe_str (pa_cons (pv 2) pa_nil))) (pa_cons (pv 4) pa_nil))) pa_nil))))
        (pcs_cons scEffKind.nd (mp_seq (n := 3) rfl (mps_cons mp_str (mps_cons (mp_cap (i := 5) rfl (Or.inl rfl)) (mps_cons (mp_cap (i := 6) rfl (Or.inl rfl)) mps_nil))))
        (pss_one (ps_ret (pe_lst (pa_cons (pe_tup (pa_cons (pe_tup (pa_cons pe_str (pa_cons (pv 5) pa_nil))) (pa_cons (pv 6) pa_nil))) pa_nil))))
        (pcs_cons scEffKind.nd (mp_seq (n := 2) rfl (mps_cons mp_str (mps_cons (mp_cap (i := 5) rfl (Or.inl rfl)) mps_nil)))
        (pss_one (ps_ret (pe_lst (pa_cons (pe_tup (pa_cons (pe_tup (pa_cons pe_str (pa_cons (pv 5) pa_nil))) (pa_cons (pv 0) pa_nil))) pa_nil))))
        (pcs_cons scEffKind.nd (mp_seq (n := 4) rfl (mps_cons mp_str (mps_cons (mp_cap (i := 5) rfl (Or.inl rfl)) (mps_cons (mp_cap (i := 7) rfl (Or.inl rfl)) (mps_cons (mp_cap (i := 8) rfl (Or.inl rfl)) mps_nil)))))
        (pss_one (ps_ret (pe_lst (pa_cons (pe_tup (pa_cons (pe_tup (pa_cons pe_str (pa_cons (pv 5) (pa_cons (pv 7) pa_nil)))) (pa_cons (pv 8) pa_nil))) pa_nil))))
        (pcs_cons scEffKind.nd (mp_seq (n := 3) rfl (mps_cons mp_str (mps_cons (mp_cap (i := 5) rfl (Or.inl rfl)) (mps_cons (mp_cap (i := 7) rfl (Or.inl rfl)) mps_nil))))
        (pss_one (ps_ret (pe_lst (pa_cons (pe_tup (pa_cons (pe_tup (pa_cons pe_str (pa_cons (pv 5) (pa_cons (pv 7) pa_nil)))) (pa_cons pe_non pa_nil))) pa_nil))))
        (pcs_cons scEffKind.nd (mp_seq (n := 2) rfl (mps_cons mp_str (mps_cons (mp_cap (i := 5) rfl (Or.inl rfl)) mps_nil)))
        (pss_one (ps_ret (pe_lst (pa_cons (pe_tup (pa_cons (pe_tup (pa_cons pe_str (pa_cons (pv 5) (pa_cons (pv 0) pa_nil)))) (pa_cons (pv 0) pa_nil))) pa_nil))))
        (pcs_cons scEffKind.nd (mp_seq (n := 3) rfl (mps_cons mp_str (mps_cons (mp_cap (i := 5) rfl (Or.inl rfl)) (mps_cons (mp_cap (i := 9) rfl (Or.inl rfl)) mps_nil))))
        (pss_one (ps_ret (pe_lst (pa_cons (pe_tup (pa_cons (pe_tup (pa_cons pe_str (pa_cons (pv 5) (pa_cons (pv 9) pa_nil)))) (pa_cons pe_non pa_nil))) pa_nil))))
        (pcs_cons scEffKind.nd (mp_seq (n := 2) rfl (mps_cons mp_str (mps_cons (mp_cap (i := 5) rfl (Or.inl rfl)) mps_nil)))
        (pss_one (ps_ret (pe_lst (pa_cons (pe_tup (pa_cons (pe_tup (pa_cons pe_str (pa_cons (pv 5) (pa_cons (pv 2) pa_nil)))) (pa_cons (pv 0) pa_nil))) pa_nil))))
        (pcs_cons scEffKind.nd (mp_seq (n := 3) rfl (mps_cons mp_str (mps_cons (mp_cap (i := 5) rfl (Or.inl rfl)) (mps_cons mp_bool mps_nil))))
        (pss_one (ps_ret (pe_lst (pa_cons (pe_tup (pa_cons (pe_tup (pa_cons pe_str (pa_cons (pv 5) (pa_cons (pv 2) pa_nil)))) (pa_cons pe_non pa_nil))) pa_nil))))
        (pcs_cons scEffKind.nd (mp_seq (n := 3) rfl (mps_cons mp_str (mps_cons (mp_cap (i := 5) rfl (Or.inl rfl)) (mps_cons mp_bool mps_nil))))
        (pss_one (ps_ret (pe_lst (pa_cons (pe_tup (pa_cons (pe_tup (pa_cons pe_str (pa_cons (pv 5) (pa_cons (pv 2) pa_nil)))) (pa_cons pe_non pa_nil))) (pa_cons (pe_tup (pa_cons (pe_tup (pa_cons pe_str (pa_cons (pv 5) pa_nil))) (pa_cons pe_non pa_nil))) pa_nil)))))
        (pcs_cons scEffKind.nd (mp_seq (n := 3) rfl (mps_cons mp_str (mps_cons (mp_cap (i := 5) rfl (Or.inl rfl)) (mps_cons (mp_cap (i := 10) rfl (Or.inl rfl)) mps_nil))))
        (pss_one (ps_ret (pe_lst (pa_cons (pe_tup (pa_cons (pe_tup (pa_cons pe_str (pa_cons (pv 5) pa_nil))) (pa_cons (pe_tup (pa_cons (pv 2) (pa_cons (pv 10) pa_nil))) pa_nil))) pa_nil))))
        (pcs_cons scEffKind.nd (mp_seq (n := 2) rfl (mps_cons mp_str (mps_cons (mp_cap (i := 5) rfl (Or.inl rfl)) mps_nil)))
        (pss_one (ps_ret (pe_lst (pa_cons (pe_tup (pa_cons (pe_tup (pa_cons pe_str (pa_cons (pv 5) pa_nil))) (pa_cons pe_non pa_nil))) pa_nil))))
        (pcs_cons scEffKind.nd (mp_seq (n := 4) rfl (mps_cons mp_str (mps_cons (mp_cap (i := 5) rfl (Or.inl rfl)) (mps_cons (mp_cap (i := 11) rfl (Or.inl rfl)) (mps_cons mp_none mps_nil)))))
        (pss_one (ps_ret (pe_lst (pa_cons (pe_tup (pa_cons (pe_tup (pa_cons pe_str (pa_cons (pv 5) (pa_cons (pv 11) pa_nil)))) (pa_cons pe_non pa_nil))) pa_nil))))
        (pcs_cons scEffKind.nd (mp_seq (n := 4) rfl (mps_cons mp_str (mps_cons (mp_cap (i := 5) rfl (Or.inl rfl)) (mps_cons (mp_cap (i := 11) rfl (Or.inl rfl)) (mps_cons (mp_cap (i := 10) rfl (Or.inl rfl)) mps_nil)))))
        (pss_one (ps_ret (pe_lst (pa_cons (pe_tup (pa_cons (pe_tup (pa_cons pe_str (pa_cons (pv 5) (pa_cons (pv 11) pa_nil)))) (pa_cons pe_non pa_nil))) (pa_cons (pe_tup (pa_cons (pe_tup (pa_cons pe_str (pa_cons (pv 5) pa_nil))) (pa_cons (pe_tup (pa_cons (pv 2) (pa_cons (pv 10) pa_nil))) pa_nil))) pa_nil)))))
        pcs_nil)))))))))))))))), ?_⟩
    refine ⟨_, rfl, _, rfl, p, ys, rfl, .inl hp, Nat.le_of_lt (small1000 (by have := fld_len b; have := dpAll_len hd; simp only [List.append_nil, List.length_cons]; omega)), fun t ht => ?_⟩
    rw [List.append_nil]
    have s1 := same_new (o := .tup (.str (kindS b) :: ys)) ht
    have hs : SqT K (upd H t (.tup (.str (kindS b) :: ys))) t (.str (kindS b) :: ys) := SqT.of upd_same
    generalize upd H t (.tup (.str (kindS b) :: ys)) = H1 at s1 hs
    show cCons _ _ _ _ _ _ _
    cases b with
    | mark d =>
      obtain ⟨x1, r1, rfl, e1, b1⟩ := dpAll_cons hd
      obtain rfl := dpAll_nil b1
      refine ⟨t, _, rfl, hs, fun _ => ⟨_, _, rfl, mS_hit rfl ?_⟩, fun z => absurd rfl z⟩
      refine ⟨_, _, rfl, ?_⟩
      exact eff_list1 (fun R r => eff_one (by show 2 ≤ 3; decide) (fun S z => ⟨_, rfl, z⟩) (fun H' S sm z => ⟨_, rfl, z _ _ (Same.refl _) (dp_same (s1.trans sm) _ _ e1)⟩) r) (fun l ps H' s' hl pr => q l ps H' (s1.trans s') hl pr)
    | make n z =>
      obtain ⟨x1, r1, rfl, e1, b1⟩ := dpAll_cons hd
      obtain rfl := dp_int e1
      obtain ⟨x2, r2, rfl, e2, b2⟩ := dpAll_cons b1
      obtain rfl := dp_int e2
      obtain rfl := dpAll_nil b2
      refine skip hs (by dsimp only [kindS]; decide) ?_
      refine ⟨t, _, rfl, hs, fun _ => ⟨_, _, rfl, mS_hit rfl ?_⟩, fun z => absurd rfl z⟩
      refine ⟨_, _, rfl, _, _, rfl, ?_⟩
      exact eff_list1 (fun R r => eff_one (by show 2 ≤ 3; decide) (fun S z => ⟨_, rfl, z⟩) (fun H' S sm z => ⟨_, rfl, z _ _ (Same.refl _) (.int _)⟩) r) (fun l ps H' s' hl pr => q l ps H' (s1.trans s') hl pr)
    | remove n =>
      obtain ⟨x1, r1, rfl, e1, b1⟩ := dpAll_cons hd
      obtain rfl := dp_int e1
      obtain rfl := dpAll_nil b1
      refine skip hs (by dsimp only [kindS]; decide) ?_
      refine skip hs (by dsimp only [kindS]; decide) ?_
      refine ⟨t, _, rfl, hs, fun _ => ⟨_, _, rfl, mS_hit rfl ?_⟩, fun z => absurd rfl z⟩
      refine ⟨_, _, rfl, ?_⟩
      exact eff_list1 (fun R r => eff_one (by show 2 ≤ 3; decide) (fun S z => ⟨_, rfl, z⟩) (fun H' S sm z => ⟨_, rfl, z _ _ (Same.refl _) (.int _)⟩) r) (fun l ps H' s' hl pr => q l ps H' (s1.trans s') hl pr)
    | write n p v =>
      obtain ⟨x1, r1, rfl, e1, b1⟩ := dpAll_cons hd
      obtain rfl := dp_int e1
      obtain ⟨x2, r2, rfl, e2, b2⟩ := dpAll_cons b1
      obtain rfl := dp_int e2
      obtain ⟨x3, r3, rfl, e3, b3⟩ := dpAll_cons b2
      obtain rfl := dp_int e3
      obtain rfl := dpAll_nil b3
      refine skip hs (by dsimp only [kindS]; decide) ?_
      refine skip hs (by dsimp only [kindS]; decide) ?_
      refine skip hs (by dsimp only [kindS]; decide) ?_
      refine ⟨t, _, rfl, hs, fun _ => ⟨_, _, rfl, mS_hit rfl ?_⟩, fun z => absurd rfl z⟩
      refine ⟨_, _, rfl, _, _, rfl, _, _, rfl, ?_⟩
      exact eff_list1 (fun R r => eff_one (by show 3 ≤ 3; decide) (fun S z => ⟨_, rfl, _, rfl, z⟩) (fun H' S sm z => ⟨_, rfl, z _ _ (Same.refl _) (.int _)⟩) r) (fun l ps H' s' hl pr => q l ps H' (s1.trans s') hl pr)
    | trim n p =>
      obtain ⟨x1, r1, rfl, e1, b1⟩ := dpAll_cons hd
      obtain rfl := dp_int e1
      obtain ⟨x2, r2, rfl, e2, b2⟩ := dpAll_cons b1
      obtain rfl := dp_int e2
      obtain rfl := dpAll_nil b2
      refine skip hs (by dsimp only [kindS]; decide) ?_
      refine skip hs (by dsimp only [kindS]; decide) ?_
      refine skip hs (by dsimp only [kindS]; decide) ?_
      refine skip hs (by dsimp only [kindS]; decide) ?_
      refine ⟨t, _, rfl, hs, fun _ => ⟨_, _, rfl, mS_hit rfl ?_⟩, fun z => absurd rfl z⟩
      refine ⟨_, _, rfl, _, _, rfl, ?_⟩
      exact eff_list1 (fun R r => eff_one (by show 3 ≤ 3; decide) (fun S z => ⟨_, rfl, _, rfl, z⟩) (fun H' S sm z => z _ _ (Same.refl _) .non) r) (fun l ps H' s' hl pr => q l ps H' (s1.trans s') hl pr)
    | snap n =>
      obtain ⟨x1, r1, rfl, e1, b1⟩ := dpAll_cons hd
      obtain rfl := dp_int e1
      obtain rfl := dpAll_nil b1
      refine skip hs (by dsimp only [kindS]; decide) ?_
      refine skip hs (by dsimp only [kindS]; decide) ?_
      refine skip hs (by dsimp only [kindS]; decide) ?_
      refine skip hs (by dsimp only [kindS]; decide) ?_
      refine skip hs (by dsimp only [kindS]; decide) ?_
      refine ⟨t, _, rfl, hs, fun _ => ⟨_, _, rfl, mS_hit rfl ?_⟩, fun z => absurd rfl z⟩
      refine ⟨_, _, rfl, ?_⟩
      exact eff_list1 (fun R r => eff_one (by show 3 ≤ 3; decide) (fun S z => ⟨_, rfl, _, rfl, z⟩) (fun H' S sm z => ⟨_, rfl, z _ _ (Same.refl _) (.int _)⟩) r) (fun l ps H' s' hl pr => q l ps H' (s1.trans s') hl pr)
    | drop n s =>
      obtain ⟨x1, r1, rfl, e1, b1⟩ := dpAll_cons hd
      obtain rfl := dp_int e1
      obtain ⟨x2, r2, rfl, e2, b2⟩ := dpAll_cons b1
      obtain rfl := dp_int e2
      obtain rfl := dpAll_nil b2
      refine skip hs (by dsimp only [kindS]; decide) ?_
      refine skip hs (by dsimp only [kindS]; decide) ?_
      refine skip hs (by dsimp only [kindS]; decide) ?_
      refine skip hs (by dsimp only [kindS]; decide) ?_
      refine skip hs (by dsimp only [kindS]; decide) ?_
      refine skip hs (by dsimp only [kindS]; decide) ?_
      refine ⟨t, _, rfl, hs, fun _ => ⟨_, _, rfl, mS_hit rfl ?_⟩, fun z => absurd rfl z⟩
      refine ⟨_, _, rfl, _, _, rfl, ?_⟩
      exact eff_list1 (fun R r => eff_one (by show 3 ≤ 3; decide) (fun S z => ⟨_, rfl, _, rfl, z⟩) (fun H' S sm z => z _ _ (Same.refl _) .non) r) (fun l ps H' s' hl pr => q l ps H' (s1.trans s') hl pr)
    | register n =>
      obtain ⟨x1, r1, rfl, e1, b1⟩ := dpAll_cons hd
      obtain rfl := dp_int e1
      obtain rfl := dpAll_nil b1
      refine skip hs (by dsimp only [kindS]; decide) ?_
      refine skip hs (by dsimp only [kindS]; decide) ?_
      refine skip hs (by dsimp only [kindS]; decide) ?_
      refine skip hs (by dsimp only [kindS]; decide) ?_
      refine skip hs (by dsimp only [kindS]; decide) ?_
      refine skip hs (by dsimp only [kindS]; decide) ?_
      refine skip hs (by dsimp only [kindS]; decide) ?_
      refine ⟨t, _, rfl, hs, fun _ => ⟨_, _, rfl, mS_hit rfl ?_⟩, fun z => absurd rfl z⟩
      refine ⟨_, _, rfl, ?_⟩
      exact eff_list1 (fun R r => eff_one (by show 3 ≤ 3; decide) (fun S z => ⟨_, rfl, _, rfl, z⟩) (fun H' S sm z => ⟨_, rfl, z _ _ (Same.refl _) (.int _)⟩) r) (fun l ps H' s' hl pr => q l ps H' (s1.trans s') hl pr)
    | leave n held =>
      obtain ⟨x1, r1, rfl, e1, b1⟩ := dpAll_cons hd
      obtain rfl := dp_int e1
      obtain ⟨x2, r2, rfl, e2, b2⟩ := dpAll_cons b1
      obtain rfl := dp_bool e2
      obtain rfl := dpAll_nil b2
      refine skip hs (by dsimp only [kindS]; decide) ?_
      refine skip hs (by dsimp only [kindS]; decide) ?_
      refine skip hs (by dsimp only [kindS]; decide) ?_
      refine skip hs (by dsimp only [kindS]; decide) ?_
      refine skip hs (by dsimp only [kindS]; decide) ?_
      refine skip hs (by dsimp only [kindS]; decide) ?_
      refine skip hs (by dsimp only [kindS]; decide) ?_
      refine skip hs (by dsimp only [kindS]; decide) ?_
      cases held with
      | false =>
        refine ⟨t, _, rfl, hs, fun _ => ⟨_, _, rfl, mS_hit rfl ?_⟩, fun z => absurd rfl z⟩
        refine ⟨_, _, rfl, _, _, rfl, mB_hit ?_⟩
        exact eff_list1 (fun R r => eff_one (k := [.inr "key", .inl n, .inl h]) (d := .none) (by show 3 ≤ 3; decide) (fun S z => ⟨_, rfl, _, rfl, z⟩) (fun H' S sm z => z _ _ (Same.refl _) .non) r) (fun l ps H' s' hl pr => q l ps H' (s1.trans s') hl pr)
      | true =>
        refine ⟨t, _, rfl, hs, fun _ => ⟨_, _, rfl, mS_hit rfl ?_⟩, fun z => absurd rfl z⟩
        refine ⟨_, _, rfl, _, _, rfl, mB_miss (by decide) ?_⟩
        refine ⟨t, _, rfl, hs, fun _ => ⟨_, _, rfl, mS_hit rfl ?_⟩, fun z => absurd rfl z⟩
        refine ⟨_, _, rfl, _, _, rfl, mB_hit ?_⟩
        exact eff_list2 (fun R r => eff_one (k := [.inr "key", .inl n, .inl h]) (d := .none) (by show 3 ≤ 3; decide) (fun S z => ⟨_, rfl, _, rfl, z⟩) (fun H' S sm z => z _ _ (Same.refl _) .non) r) (fun H1 R s2 r => eff_one (k := [.inr "hold", .inl n]) (d := .none) (by show 2 ≤ 3; decide) (fun S z => ⟨_, rfl, z⟩) (fun H' S sm z => z _ _ (Same.refl _) .non) r) (fun l ps H' s' hl pr => q l ps H' (s1.trans s') hl pr)
    | reserve n w =>
      obtain ⟨x1, r1, rfl, e1, b1⟩ := dpAll_cons hd
      obtain rfl := dp_int e1
      obtain ⟨x2, r2, rfl, e2, b2⟩ := dpAll_cons b1
      obtain rfl := dp_strv e2
      obtain rfl := dpAll_nil b2
      refine skip hs (by dsimp only [kindS]; decide) ?_
      refine skip hs (by dsimp only [kindS]; decide) ?_
      refine skip hs (by dsimp only [kindS]; decide) ?_
      refine skip hs (by dsimp only [kindS]; decide) ?_
      refine skip hs (by dsimp only [kindS]; decide) ?_
      refine skip hs (by dsimp only [kindS]; decide) ?_
      refine skip hs (by dsimp only [kindS]; decide) ?_
      refine skip hs (by dsimp only [kindS]; decide) ?_
      refine skip hs (by dsimp only [kindS]; decide) ?_
      refine skip hs (by dsimp only [kindS]; decide) ?_
      refine ⟨t, _, rfl, hs, fun _ => ⟨_, _, rfl, mS_hit rfl ?_⟩, fun z => absurd rfl z⟩
      refine ⟨_, _, rfl, _, _, rfl, ?_⟩
      exact eff_list1 (fun R r => eff_one (by show 2 ≤ 3; decide) (fun S z => ⟨_, rfl, z⟩) (fun H' S sm z => ⟨_, rfl, _, rfl, by show 2 ≤ sizeLine; decide, fun u hu => z _ _ (same_new hu) (.tup (SqT.of upd_same) (.cons (.int _) (.cons (.str _) .nil)))⟩) r) (fun l ps H' s' hl pr => q l ps H' (s1.trans s') hl pr)
    | release n =>
      obtain ⟨x1, r1, rfl, e1, b1⟩ := dpAll_cons hd
      obtain rfl := dp_int e1
      obtain rfl := dpAll_nil b1
      refine skip hs (by dsimp only [kindS]; decide) ?_
      refine skip hs (by dsimp only [kindS]; decide) ?_
      refine skip hs (by dsimp only [kindS]; decide) ?_
      refine skip hs (by dsimp only [kindS]; decide) ?_
      refine skip hs (by dsimp only [kindS]; decide) ?_
      refine skip hs (by dsimp only [kindS]; decide) ?_
      refine skip hs (by dsimp only [kindS]; decide) ?_
      refine skip hs (by dsimp only [kindS]; decide) ?_
      refine skip hs (by dsimp only [kindS]; decide) ?_
      refine skip hs (by dsimp only [kindS]; decide) ?_
      refine skip hs (by dsimp only [kindS]; decide) ?_
      refine ⟨t, _, rfl, hs, fun _ => ⟨_, _, rfl, mS_hit rfl ?_⟩, fun z => absurd rfl z⟩
      refine ⟨_, _, rfl, ?_⟩
      exact eff_list1 (fun R r => eff_one (by show 2 ≤ 3; decide) (fun S z => ⟨_, rfl, z⟩) (fun H' S sm z => z _ _ (Same.refl _) .non) r) (fun l ps H' s' hl pr => q l ps H' (s1.trans s') hl pr)
    | preempt n v w =>
      cases w with
      | none =>
        obtain ⟨x1, r1, rfl, e1, b1⟩ := dpAll_cons hd
        obtain rfl := dp_int e1
        obtain ⟨x2, r2, rfl, e2, b2⟩ := dpAll_cons b1
        obtain rfl := dp_int e2
        obtain ⟨x3, r3, rfl, e3, b3⟩ := dpAll_cons b2
        obtain rfl := dp_none e3
        obtain rfl := dpAll_nil b3
        refine skip hs (by dsimp only [kindS]; decide) ?_
        refine skip hs (by dsimp only [kindS]; decide) ?_
        refine skip hs (by dsimp only [kindS]; decide) ?_
        refine skip hs (by dsimp only [kindS]; decide) ?_
        refine skip hs (by dsimp only [kindS]; decide) ?_
        refine skip hs (by dsimp only [kindS]; decide) ?_
        refine skip hs (by dsimp only [kindS]; decide) ?_
        refine skip hs (by dsimp only [kindS]; decide) ?_
        refine skip hs (by dsimp only [kindS]; decide) ?_
        refine skip hs (by dsimp only [kindS]; decide) ?_
        refine skip hs (by dsimp only [kindS]; decide) ?_
        refine skip hs (by dsimp only [kindS]; decide) ?_
        refine ⟨t, _, rfl, hs, fun _ => ⟨_, _, rfl, mS_hit rfl ?_⟩, fun z => absurd rfl z⟩
        refine ⟨_, _, rfl, _, _, rfl, _, _, rfl, mN_hit ?_⟩
        exact eff_list1 (fun R r => eff_one (k := [.inr "key", .inl n, .inl v]) (d := .none) (by show 3 ≤ 3; decide) (fun S z => ⟨_, rfl, _, rfl, z⟩) (fun H' S sm z => z _ _ (Same.refl _) .non) r) (fun l ps H' s' hl pr => q l ps H' (s1.trans s') hl pr)
      | some w =>
        obtain ⟨x1, r1, rfl, e1, b1⟩ := dpAll_cons hd
        obtain rfl := dp_int e1
        obtain ⟨x2, r2, rfl, e2, b2⟩ := dpAll_cons b1
        obtain rfl := dp_int e2
        obtain ⟨x3, r3, rfl, e3, b3⟩ := dpAll_cons b2
        obtain rfl := dp_strv e3
        obtain rfl := dpAll_nil b3
        refine skip hs (by dsimp only [kindS]; decide) ?_
        refine skip hs (by dsimp only [kindS]; decide) ?_
        refine skip hs (by dsimp only [kindS]; decide) ?_
        refine skip hs (by dsimp only [kindS]; decide) ?_
        refine skip hs (by dsimp only [kindS]; decide) ?_
        refine skip hs (by dsimp only [kindS]; decide) ?_
        refine skip hs (by dsimp only [kindS]; decide) ?_
        refine skip hs (by dsimp only [kindS]; decide) ?_
        refine skip hs (by dsimp only [kindS]; decide) ?_
        refine skip hs (by dsimp only [kindS]; decide) ?_
        refine skip hs (by dsimp only [kindS]; decide) ?_
        refine skip hs (by dsimp only [kindS]; decide) ?_
        refine ⟨t, _, rfl, hs, fun _ => ⟨_, _, rfl, mS_hit rfl ?_⟩, fun z => absurd rfl z⟩
        refine ⟨_, _, rfl, _, _, rfl, _, _, rfl, mN_miss (fun z => nomatch z) ?_⟩
        refine ⟨t, _, rfl, hs, fun _ => ⟨_, _, rfl, mS_hit rfl ?_⟩, fun z => absurd rfl z⟩
        refine ⟨_, _, rfl, _, _, rfl, _, _, rfl, ?_⟩
        exact eff_list2 (fun R r => eff_one (k := [.inr "key", .inl n, .inl v]) (d := .none) (by show 3 ≤ 3; decide) (fun S z => ⟨_, rfl, _, rfl, z⟩) (fun H' S sm z => z _ _ (Same.refl _) .non) r) (fun H1 R s2 r => eff_one (k := [.inr "hold", .inl n]) (d := .tuple [.int h, .str w]) (by show 2 ≤ 3; decide) (fun S z => ⟨_, rfl, z⟩) (fun H' S sm z => ⟨_, rfl, _, rfl, by show 2 ≤ sizeLine; decide, fun u hu => z _ _ (same_new hu) (.tup (SqT.of upd_same) (.cons (.int _) (.cons (.str _) .nil)))⟩) r) (fun l ps H' s' hl pr => q l ps H' (s1.trans s') hl pr)
end
section
variable {P : Program} {wrl : World} {K : PySem.W.Frag} {mg : Str → Option Value} {base : Heap} {f fA fE fF : Addr} {fd fdA fdE fdF : FuncData}
theorem scFieldsOf : FnScope ["record"] ["record"] (defScope sFieldsOf) := ⟨rfl, rfl, rfl, by decide +kernel, rfl, by decide +kernel, by decide +kernel⟩
theorem ok_fieldsOf (F : Fun K "fields_of" "fields_of" sFieldsOf f fd) (hH : ∃ t, mg "HEAD" = some (Value.int 5 t)) : FnOk P wrl K mg base CX0 1 f fd ["record"] (spFieldsOf K) := by
  obtain ⟨t0, hHd⟩ := hH
  refine F.ok scFieldsOf (fun vs H Q E h => ?_) (fun cdv A outer s H vs Q E hr h => ?_)
  · obtain ⟨a, x1, x2, x3, x4, x5, ys, rfl, _⟩ := h
    rfl
  · obtain ⟨a, x1, x2, x3, x4, x5, ys, rfl, hs, q⟩ := h
    refine ⟨_, pss_one (ps_ret (pe_slice sl_any (pv 0) (po_some (pe_glob (v := .int 5) (by rfl) hHd ⟨_, rfl⟩)) po_none)), ?_⟩
    refine ⟨_, rfl, 5, rfl, a, _, rfl, hs, fun p H' s' hp => ?_⟩
    rw [cut_tail] at hp
    exact q p H' s' hp
theorem scAnswerOf : FnScope ["record", "order", "kind"] ["record"] (defScope sAnswerOf) := ⟨rfl, rfl, rfl, by decide +kernel, rfl, by decide +kernel, by decide +kernel⟩
theorem ok_answerOf (F : Fun K "answer_of" "answer_of" sAnswerOf f fd) : FnOk P wrl K mg base CX0 1 f fd ["record"] (spAnswerOf K) := by
  refine F.ok scAnswerOf (fun vs H Q E h => ?_) (fun cdv A outer s H vs Q E hr h => ?_)
  · obtain ⟨a, o, k, r, rfl, _⟩ := h
    rfl
  · obtain ⟨a, o, k, r, rfl, hs, q⟩ := h
    refine ⟨_, pss_cons (ps_asg (pe_slice sl_any (pv 0) po_none (po_some pe_int)) (pg_tup (by rfl) (pgs_cons (pg_name (i := 1) scAnswerOf.nd rfl (Or.inl rfl)) (pgs_cons (pg_name (i := 2) scAnswerOf.nd rfl (Or.inl rfl)) L2.pgs_nil))))
      (pss_cons (ps_if (pt_cmpR op_eq (pv 2) pe_str (nomark _)) (pss_one (ps_ret pe_non)) pss_nil)
      (pss_cons (ps_if (pt_cmpR op_in_seq (pv 2) (pe_tup (pa_cons pe_str (pa_cons pe_str pa_nil))) (by rfl)) (pss_one (ps_ret (pe_tup (pa_cons pe_str (pa_cons (pv 1) pa_nil))))) pss_nil)
      (pss_one (ps_ret (pe_tup (pa_cons pe_str (pa_cons pe_non pa_nil))))))), ?_⟩
    refine ⟨_, rfl, 2, rfl, a, _, rfl, hs, fun p H1 s1 hp => ?_⟩
    rw [cut_two] at hp
    refine ⟨p, _, rfl, hp, rfl, _, _, rfl, _, _, rfl, rfl, ?_⟩
    refine ⟨_, rfl, rfl, _, rfl, ?_⟩
    by_cases hk : k = "mark"
    · subst hk
      rw [str_eqT]
      refine iteT ?_
      exact q .non H1 s1 .non
    · rw [str_eqF hk]
      refine iteF ⟨_, rfl, by show 2 ≤ sizeLine; decide, fun tt htt => ?_⟩
      have s2 := same_new (o := .tup [.str "snap", .str "register"]) htt
      have e : inV (.str k) ((["snap", "register"] : List Str).map V.str) = strIn k ["snap", "register"] := inV_str
      refine ⟨tt, _, rfl, .inr (SqT.of upd_same), rfl, rfl, _, rfl, ?_⟩
      have e' : inV (.str k) [.str "snap", .str "register"] = strIn k ["snap", "register"] := e
      rw [e']
      cases hin : strIn k ["snap", "register"] with
      | true =>
        refine iteT ⟨_, rfl, by show 2 ≤ sizeLine; decide, fun t ht => ?_⟩
        refine q (.ref t) _ (s1.trans (s2.trans (same_new ht))) ?_
        unfold answD
        rw [if_neg hk, if_pos hin]
        exact .tup (SqT.of upd_same) (.cons (.str _) (.cons (.int _) .nil))
      | false =>
        refine iteF ⟨by show 2 ≤ sizeLine; decide, fun t ht => ?_⟩
        refine q (.ref t) _ (s1.trans (s2.trans (same_new ht))) ?_
        unfold answD
        rw [if_neg hk, if_neg (by rw [hin]; exact Bool.false_ne_true)]
        exact .tup (SqT.of upd_same) (.cons (.str _) (.cons .non .nil))
end
/-- a list of effects; one effect -/
def LE (K : PySem.W.Frag) (te : TE) (σ : L2.St) (H : Hp) (es : List Ef) : Prop := ∀ Q : VK, (∀ l (ps : List Addr) H', Same H H' → H' l = some (.lst (ps.map V.ref)) → Paired (EffAt K H') ps es → Q (.ref l) H') → te σ H Q
def EE (K : PySem.W.Frag) (te : TE) (σ : L2.St) (H : Hp) (e : Ef) : Prop := ∀ Q : VK, (∀ p H', Same H H' → EffAt K H' p e → Q (.ref p) H') → te σ H Q
section
variable {K : PySem.W.Frag} {σ : L2.St} {H : Hp} {te ta tb : TE} {es fs : List Ef} {e : Ef}
theorem LE.one (h : EE K te σ H e) : LE K (tLst (tCons te tNil)) σ H [e] := fun Q q => eff_list1 h q
theorem LE.var {i : Nat} {l : Addr} {ps : List Addr} (hσ : σ[i]? = some (some (.ref l))) (hl : H l = some (.lst (ps.map V.ref))) (pr : Paired (EffAt K H) ps es) : LE K (tVar i) σ H es := fun Q q => ⟨_, hσ, q l ps H (Same.refl H) hl pr⟩
theorem paired_append {α β : Type} {F : α → β → Prop} : ∀ {a c : List α} {b d : List β}, Paired F a b → Paired F c d → Paired F (a ++ c) (b ++ d)
  | _, _, _, _, .nil, h => h
  | _, _, _, _, .cons r t, h => .cons r (paired_append t h)
theorem LE.cat (h1 : LE K ta σ H es) (h2 : ∀ H', Same H H' → LE K tb σ H' fs) (hn : es.length + fs.length ≤ 100) : LE K (tOp rCat ta tb) σ H (es ++ fs) := fun Q q => by
  refine h1 _ fun l ps H1 s1 hl p1 => h2 H1 s1 _ fun l2 ps2 H2 s2 hl2 p2 => ?_
  have n1 := p1.length
  have n2 := p2.length
  refine ⟨l, l2, _, _, rfl, rfl, s2 _ _ hl, hl2, by rw [List.length_map, List.length_map]; exact Nat.le_of_lt (small1000 (by omega)), fun p hp => ?_⟩
  rw [← List.map_append]
  have s3 := same_new (o := .lst ((ps ++ ps2).map V.ref)) hp
  exact q p _ _ (s1.trans (s2.trans s3)) upd_same (paired_append (Paired.imp2 (fun _ _ z => z.same (s2.trans s3)) p1) (Paired.imp2 (fun _ _ z => z.same s3) p2))
theorem EE.of {tk : TA} {tv : TE} {k : List Key} {d : PyData} (hn : k.length ≤ 3) (hk : ∀ R : List V → Hp → Prop, R (k.map kV) H → tk σ H R)
    (hv : ∀ H' (R : VK), Same H H' → (∀ H'' v, Same H' H'' → Dp K H'' v d → R v H'') → tv σ H' R) : EE K (tTup (tCons (tTup tk) (tCons tv tNil))) σ H (k, d) := fun Q q => eff_one hn hk hv q
end
theorem stSet0 {te : TE} {i : Nat} {r : TS} {D : Ends} {σ : L2.St} {H : Hp} {v : V} (h : ∀ Q : VK, Q v H → te σ H Q) (k : r D (σ.set i (some v)) H) : tSeq (tAsg te (gName i)) r D σ H := h _ k
theorem seqE {K : PySem.W.Frag} {te : TE} {i : Nat} {r : TS} {D : Ends} {σ : L2.St} {H : Hp} {e : Ef} (h : EE K te σ H e) (k : ∀ p H', Same H H' → EffAt K H' p e → r D (σ.set i (some (.ref p))) H') : tSeq (tAsg te (gName i)) r D σ H := h _ k
theorem seqL {K : PySem.W.Frag} {te : TE} {i : Nat} {r : TS} {D : Ends} {σ : L2.St} {H : Hp} {es : List Ef} (h : LE K te σ H es) (k : ∀ l (ps : List Addr) H', Same H H' → H' l = some (.lst (ps.map V.ref)) → Paired (EffAt K H') ps es → r D (σ.set i (some (.ref l))) H') : tSeq (tAsg te (gName i)) r D σ H := h _ k
theorem ifStrF {i : Nat} {k x : Str} {t r : TS} {D : Ends} {σ : L2.St} {H : Hp} (hσ : σ[i]? = some (some (.str k))) (h : ¬ k = x) (n : r D σ H) : tSeq (tIfS (tTest (tOp rEq (tVar i) (tC (.str x)))) t tNext) r D σ H := by
  refine ⟨_, hσ, rfl, _, rfl, ?_⟩
  rw [decide_eq_false (show ¬ V.str k = V.str x from fun z => h (by cases z; rfl))]
  exact iteF n
theorem ifStrT {i : Nat} {x : Str} {t u r : TS} {D : Ends} {σ : L2.St} {H : Hp} (hσ : σ[i]? = some (some (.str x))) (n : t { D with nx := r D } σ H) : tSeq (tIfS (tTest (tOp rEq (tVar i) (tC (.str x)))) t u) r D σ H := by
  refine ⟨_, hσ, rfl, _, rfl, ?_⟩
  rw [decide_eq_true rfl]
  exact iteT n
def spLAnswer0 (K : PySem.W.Frag) : Sp := fun vs H Q _ => ∃ (t : Addr) (r : Rc), vs = [.ref t] ∧ RecAt K H t r ∧ ∀ v H', Same H H' → Dp K H' v (answD (kindS r.b) r.o) → Q v H'
section
variable {P : Program} {wrl : World} {K : PySem.W.Frag} {mg : Str → Option Value} {base : Heap} {f fA fE fF aK aF : Addr} {fd fdA fdE fdF : FuncData}
theorem scEffects : FnScope ["record","order","kind","host","session","counter","first"] ["record"] (defScope sEffects) := ⟨rfl, rfl, rfl, by decide +kernel, rfl, by decide +kernel, by decide +kernel⟩
theorem ok_effects (F : Fun K "effects" "effects" sEffects f fd) (hH : ∃ t, mg "HEAD" = some (Value.int 5 t)) (GA : Def P wrl K mg base CX0 "answer_of" 1 ["record"] (spAnswerOf K) fA fdA) (GE : Def P wrl K mg base CX0 "_effects_of_kind" 1 ["order", "kind", "host", "fields"] (spEffKind K) fE fdE)
    (GF : Def P wrl K mg base CX0 "fields_of" 1 ["record"] (spFieldsOf K) fF fdF) : FnOk P wrl K mg base CX0 2 f fd ["record"] (spEffects K) := by
  obtain ⟨t0, hHd⟩ := hH
  refine F.ok scEffects (fun vs H Q E h => ?_) (fun cdv A outer s H vs Q E hr h => ?_)
  · obtain ⟨t, r, rfl, _⟩ := h
    rfl
  · obtain ⟨t, r, rfl, ⟨ys, hs, hd⟩, q⟩ := h
    have hr1 : Room 1 _ := hr.mono (by decide)
    refine ⟨_, (pss_cons (ps_asg (pe_slice sl_any (pv 0) po_none (po_some (pe_glob (v := .int 5) (by rfl) hHd ⟨_, rfl⟩))) (pg_tup (by rfl) (pgs_cons (pg_name (i := 1) scEffects.nd rfl (Or.inl rfl)) (pgs_cons (pg_name (i := 2) scEffects.nd rfl (Or.inl rfl)) (pgs_cons (pg_name (i := 3) scEffects.nd rfl (Or.inl rfl)) (pgs_cons (pg_name (i := 4) scEffects.nd rfl (Or.inl rfl)) (pgs_cons (pg_name (i := 5) scEffects.nd rfl (Or.inl rfl)) L2.pgs_nil)))))))
      (pss_cons (ps_set (i := 6) scEffects.nd rfl (Or.inl rfl) (pe_tup (pa_cons (pe_tup (pa_cons pe_str (pa_cons (pv 3) pa_nil))) (pa_cons (pe_tup (pa_cons (pv 4) (pa_cons (pv 5) (pa_cons (pe_call GA.ok hr1 (by rfl) GA.mg GA.kp GA.bd .nil pass0 (pa_cons (pv 0) pa_nil)) pa_nil)))) pa_nil))))
      (pss_one (ps_ret (pe_op op_cat (pe_lst (pa_cons (pv 6) pa_nil)) (pe_call GE.ok hr1 (by rfl) GE.mg GE.kp GE.bd .nil pass0 (pa_cons (pv 1) (pa_cons (pv 2) (pa_cons (pv 3) (pa_cons (pe_call GF.ok hr1 (by rfl) GF.mg GF.kp GF.bd .nil pass0 (pa_cons (pv 0) pa_nil)) pa_nil)))))))))), ?_⟩
    refine ⟨_, rfl, 5, rfl, t, _, rfl, hs, fun p H1 s1 hp => ?_⟩
    rw [cut_head] at hp
    refine ⟨p, _, rfl, hp, rfl, _, _, rfl, _, _, rfl, _, _, rfl, _, _, rfl, _, _, rfl, rfl, ?_⟩
    have hs1 := SqT_same s1 hs
    dsimp only [gName]
    refine seqE (K := K) (e := effH r) (EE.of (by show 2 ≤ 3; decide) (fun S z => ⟨_, rfl, z⟩) (fun H2 S s2 z => ?_)) fun p1 H2 s2 e2 => ?_
    · refine ⟨_, rfl, _, rfl, _, rfl, t, r.o, kindS r.b, _, rfl, SqT_same s2 hs1, fun v H3 s3 hv => ⟨by show 3 ≤ sizeLine; decide, fun u hu => ?_⟩⟩
      exact z _ _ (s3.trans (same_new hu)) (.tup (SqT.of upd_same) (.cons (.int _) (.cons (.int _) (.cons (dp_same (same_new hu) _ _ hv) .nil))))
    · have s12 := s1.trans s2
      refine LE.cat (K := K) (es := [effH r]) (fs := effB r.o r.h r.b) (LE.one fun Q' q' => ⟨_, rfl, q' p1 H2 (Same.refl H2) e2⟩) (fun H3 s3 Q' q' => ?_) (by cases r with | mk o h s c b => cases b <;> simp [effB] <;> (try split) <;> simp) _ fun l ps H' s' hl pr => q l ps H' (s12.trans s') hl pr
      have s13 := s12.trans s3
      refine ⟨_, rfl, _, rfl, _, rfl, _, rfl, t, _, _, _, _, _, ys, rfl, SqT_same s13 hs, fun pf H4 s4 hpf => ?_⟩
      exact ⟨r.o, r.h, pf, r.b, ys, rfl, hpf, dpAll_same (s13.trans s4) _ _ hd, fun l ps H' s' hl pr => q' l ps H' (s4.trans s') hl pr⟩
end
end Sg

set_option Elab.async false
set_option linter.all false
set_option maxRecDepth 100000
set_option maxHeartbeats 4000000
namespace Sg
open PySem PySem.Spec PyProof.Rows L2
/-! ### data of tuples alone -/
mutual
def tupO : PyData → Bool
  | .none => true
  | .bool _ => true
  | .int _ => true
  | .str _ => true
  | .tuple ds => tupOs ds
  | _ => false
def tupOs : List PyData → Bool
  | [] => true
  | d :: ds => tupO d && tupOs ds
end
mutual
theorem dp_tk {K : PySem.W.Frag} {H H' : Hp} (s : TK H H') : ∀ (d : PyData) (x : V), tupO d = true → Dp K H x d → Dp K H' x d
  | .none, _, _, h => by cases h; exact .non
  | .bool _, _, _, h => by cases h; exact .bl _
  | .int _, _, _, h => by cases h; exact .int _
  | .str _, _, _, h => by cases h; exact .str _
  | .tuple ds, _, g, h => by
    have g' : tupOs ds = true := by simpa [tupO] using g
    cases h with
    | tup hs ha => exact .tup (sqT_tk hs s) (dpAll_tk s ds _ g' ha)
  | .list ds, _, g, _ => by simp [tupO] at g
  | .dict _, _, _, h => by cases h
theorem dpAll_tk {K : PySem.W.Frag} {H H' : Hp} (s : TK H H') : ∀ (ds : List PyData) (xs : List V), tupOs ds = true → DpAll K H xs ds → DpAll K H' xs ds
  | [], _, _, h => by cases h; exact .nil
  | d :: ds, _, g, h => by
    have g' : tupO d = true ∧ tupOs ds = true := by simpa [tupOs] using g
    cases h with
    | cons a b => exact .cons (dp_tk s d _ g'.1 a) (dpAll_tk s ds _ g'.2 b)
end
/-- good data: tuples alone, of a small depth -/
structure GD (n : Nat) (d : PyData) : Prop where
  t : tupO d = true
  l : d.canLay0 = true
  dp : d.depth ≤ n
theorem GD.sh {n : Nat} {d : PyData} (h : GD n d) (hn : n ≤ 64) : SeqAt.shaped d = true := shaped_of h.l (Nat.le_trans h.dp hn)
theorem GD.mono {n m : Nat} {d : PyData} (h : GD n d) (hn : n ≤ m) : GD m d := ⟨h.t, h.l, Nat.le_trans h.dp hn⟩
theorem gd_none {n : Nat} : GD n .none := ⟨rfl, by simp [PyData.canLay0], by simp [PyData.depth]⟩
theorem gd_int {n : Nat} {i : Int} : GD n (.int i) := ⟨rfl, by simp [PyData.canLay0], by simp [PyData.depth]⟩
theorem gd_tup3 {n : Nat} {a b c : PyData} (ha : GD n a) (hb : GD n b) (hc : GD n c) : GD (n + 1) (.tuple [a, b, c]) := by
  refine ⟨?_, ?_, ?_⟩
  · simp [tupO, tupOs, ha.t, hb.t, hc.t]
  · simp [PyData.canLay0, PyData.canLayAll0, ha.l, hb.l, hc.l]
  · have := ha.dp; have := hb.dp; have := hc.dp
    simp only [PyData.depth, PyData.depthAll]; omega
theorem gd_tup4 {n : Nat} {a b c d : PyData} (ha : GD n a) (hb : GD n b) (hc : GD n c) (hd : GD n d) : GD (n + 1) (.tuple [a, b, c, d]) := by
  refine ⟨?_, ?_, ?_⟩
  · simp [tupO, tupOs, ha.t, hb.t, hc.t, hd.t]
  · simp [PyData.canLay0, PyData.canLayAll0, ha.l, hb.l, hc.l, hd.l]
  · have := ha.dp; have := hb.dp; have := hc.dp; have := hd.dp
    simp only [PyData.depth, PyData.depthAll]; omega
theorem gd_tup2 {n : Nat} {a b : PyData} (ha : GD n a) (hb : GD n b) : GD (n + 1) (.tuple [a, b]) := by
  refine ⟨?_, ?_, ?_⟩
  · simp [tupO, tupOs, ha.t, hb.t]
  · simp [PyData.canLay0, PyData.canLayAll0, ha.l, hb.l]
  · have := ha.dp; have := hb.dp
    simp only [PyData.depth, PyData.depthAll]; omega
end Sg

set_option Elab.async false
set_option linter.all false
set_option maxRecDepth 100000
set_option maxHeartbeats 4000000
/-! sorted(d) of a dict whose keys are whole numbers, any number of them -/
namespace Sg
open PySem PySem.Spec PyProof.Rows L2
def rSortDI : List V → Hp → VK → Prop := fun vs H Q => ∃ (d : Addr) (es : List (Key × V)) (ns : List Int), vs = [.ref d] ∧ H d = some (.dK es) ∧ es.map (·.1) = ns.map Sum.inl ∧
  ∀ (ms : List Int) (l : Addr), ms.Perm ns → ms.Pairwise (· ≤ ·) → H l = none → Q (.ref l) (upd H l (.lst (ms.map V.int)))
theorem ints_of_keys {es : List (Key × Value)} {ns : List Int} {arr : Array Value} (hk : es.map (·.1) = ns.map Sum.inl) (hn : arr.toList.length = ns.length)
    (h : ∀ (j : Nat) (v : Value), arr[j]? = some v → ∃ (k : Key) (x : Value), es[j]? = some (k, x) ∧ keyIs k v = true) : IntsAre arr.toList ns := by
  refine ints_each hn fun j v e => ?_
  obtain ⟨k, x, g1, g2⟩ := h j v (by rw [← Array.getElem?_toList]; exact e)
  have g3 : (es.map (·.1))[j]? = some k := by rw [List.getElem?_map, g1]; rfl
  rw [hk, List.getElem?_map] at g3
  cases g4 : ns[j]? with
  | none => rw [g4] at g3; cases g3
  | some y =>
    rw [g4] at g3
    obtain rfl : Sum.inl y = k := Option.some.inj g3
    rcases keyIs_shape (show keyIs (Sum.inl y) v = true from g2) with ⟨i, t, a, b⟩ | ⟨i, t, a, b⟩
    · injection a with a
      exact ⟨y, t, rfl, by rw [a]; exact b⟩
    · cases a
section
variable {X : Cx}
theorem call_sortDI (hcalm : X.calm = true) : CallR X (.builtin "sorted") rSortDI := by
  intro pins s σ H vs us Q I r h
  obtain ⟨d, es, ns, rfl, hd, hns, q⟩ := h
  obtain ⟨u, rfl, ru⟩ := vals1 r
  obtain rfl : u = Value.ref d := ru
  obtain ⟨z, lo, vs, rel, dd⟩ := dk_rd I.hok (Rd.of hd)
  obtain ⟨ep, hat⟩ := dd.dictAt
  have hk : vs.map (·.1) = ns.map Sum.inl := by rw [← rel.keys]; exact hns
  have hl : vs.length = ns.length := by simpa using congrArg List.length hk
  have hz : vs.length ≤ sizeLine := by
    have := rel.length
    omega
  refine Calls.call_function_entry kind_sorted plain_sorted entry_sorted (args_sorted1 _) ?_
  unfold Builtin.«sorted»
  refine wpAny_bind (m := checkCount "sorted" 1 1 _) (wpAny_pure (wpAny_bind (PySem.W.kdu_collect (A := X.A.in1) (PySem.W.kdl_dict (knd := mixKind X.prog X.w) (kvs := vs) (ep := ep) lo) (I.ok.hd hcalm) hat hz fun h1 tk arr ke ha => ?_)))
  have hn : arr.toList.length = ns.length := by rw [Array.length_toList, ha.1, hl]
  have hi : IntsAre arr.toList ns := ints_of_keys hk hn ha.2
  have hza : arr.toList.length ≤ sizeLine := by omega
  have I1 : Inv X pins σ H { s with heap := h1, toks := tk } := I.kept ke
  refine wpAny_bind (wpAny_newList ?_ hza)
  have ho : (h1.push (seqObj "list" arr.toList.toArray 0)).get? h1.objs.size = some (seqObj "list" arr.toList.toArray 0) := by exact Heap.get?_push_size _ rfl
  show wpAny _ _ _ _ _ (Shared.mk (h1.push (seqObj "list" arr.toList.toArray 0)) s.gens s.drawn tk s.os)
  refine wpAny_bind (wpAny_holding (wpAny_call_entry slot_list_sort ⟨_, ho, rfl⟩ entry_list_sort (SrtO.list_sort_ord SrtO.swo_int ho hza (fun h2 => SrtO.ints_sortable hi h2) fun out k1 k2 => ⟨_, rfl, ?_⟩) (args_list_sort _)))
  obtain ⟨m1, m2, m3⟩ := SrtO.ints_out hi k1 k2
  obtain ⟨e', he'⟩ := sortedHeap_at (vs := arr.toList) (out := out.toArray) ho
  have hlen : ((out.map SrtO.iv).map V.int).length ≤ sizeLine := by
    have := m2.length_eq
    rw [List.length_map]
    omega
  refine wpAny_pure ⟨_, rfl, .ref h1.objs.size, upd H h1.objs.size (.lst ((out.map SrtO.iv).map V.int)), I1.laid (t' := tk) (fun b o eb => ?_) (Nat.le_refl _) ⟨hlen, out, e', vals_of_ints m1, he'⟩, rfl, q _ _ m2 m3 (I1.hok.fresh (Nat.le_refl _))⟩
  have hb := Heap.lt_size eb
  rw [sortedHeap_old (Nat.ne_of_lt hb) (Nat.lt_of_lt_of_le hb (by rw [size_push']; exact Nat.le_succ _))]
  exact Heap.get?_push_of_some _ eb
end
end Sg

set_option Elab.async false
set_option linter.all false
set_option maxRecDepth 100000
set_option maxHeartbeats 4000000
/-! [y for x in xs for y in ys(x) if ..] over lists -/
namespace Sg
open PySem PySem.Spec PyProof.Rows L2
theorem lc2_flat {K : PySem.W.Frag} {σ : L2.St} {H1 : Hp} {D a : Addr} {vs : List Nat} {j j1 : Nat} {xs : List V} {wi1 : TI} {tt1 : TT} {te : TE} {Qd : Hp → Prop} (yss : List (List V)) (f : V → Bool) (hlen : yss.length = xs.length) (hD : H1 D = Option.none) (hx : SqL K H1 a xs)
    (hw : ∀ x, wipe ((wipe σ vs).set j (some x)) vs = wipe σ vs) (hw1 : ∀ x y, wipe ((wipe ((wipe σ vs).set j (some x)) [j1]).set j1 (some y)) [j1] = wipe ((wipe σ vs).set j (some x)) [j1]) (hz : yss.flatten.length ≤ 1000)
    (hin : ∀ (i : Nat) (x : V) (ys : List V) (H' : Hp) (R : It → Hp → Prop), xs[i]? = some x → yss[i]? = some ys → Same H1 H' → (∀ b H'', Same H' H'' → (∀ H3, Same H1 H3 → SqL K H3 b ys) → R (Itl K b) H'') → wi1 ((wipe σ vs).set j (some x)) H' R)
    (ht : ∀ (i : Nat) (x y : V) (ys : List V) (H' : Hp) (Q' : Bool → Hp → Prop), xs[i]? = some x → yss[i]? = some ys → y ∈ ys → Same H1 H' → (∀ H'', Same H' H'' → Q' (f y) H'') → tt1 ((wipe ((wipe σ vs).set j (some x)) [j1]).set j1 (some y)) H' Q')
    (he : ∀ (i : Nat) (x y : V) (ys : List V) (H' : Hp) (Q' : VK), xs[i]? = some x → yss[i]? = some ys → y ∈ ys → Q' y H' → te ((wipe ((wipe σ vs).set j (some x)) [j1]).set j1 (some y)) H' Q')
    (hd : ∀ H', Same H1 H' → H' D = some (.lst (yss.flatten.filter f)) → Qd H') :
    ∃ W : Nat → Nat → Hp → Prop, (∃ m, W 0 m (upd H1 D (.lst []))) ∧ ∀ i m H, W i m H →
      ((Itl K a).stop i H ∧ Qd H) ∨ ((Itl K a).go i H ∧ ∃ Nx : Hp → Prop, (∀ H', Nx H' → ∃ m', m' < m ∧ W (i + 1) m' H') ∧ ∀ x H', (Itl K a).yld i H x H' → gName j x (wipe σ vs) H' fun σ2 H2 => wipe σ2 vs = wipe σ vs ∧ tYes σ2 H2 fun b H3 =>
        if b = true then wi1 σ2 H3 fun J1 H4 => ∃ W1 : Nat → Nat → Hp → Prop, (∃ m, W1 0 m H4) ∧ ∀ g k H, W1 g k H →
          (J1.stop g H ∧ Nx H) ∨ (J1.go g H ∧ ∃ Nx1 : Hp → Prop, (∀ H', Nx1 H' → ∃ k', k' < k ∧ W1 (g + 1) k' H') ∧ ∀ x H', J1.yld g H x H' → gName j1 x (wipe σ2 [j1]) H' fun σ3 H5 => wipe σ3 [j1] = wipe σ2 [j1] ∧ tt1 σ3 H5 fun b H6 =>
            if b = true then te σ3 H6 fun y H7 => ∃ acc, H7 D = some (.lst acc) ∧ acc.length < sizeLine ∧ Nx1 (upd H7 D (.lst (acc ++ [y]))) else Nx1 H6)
        else Nx H3) := by
  have step : ∀ (H' : Hp) (acc : List V), Same H1 H' → H' D = some (.lst acc) → ∀ zs, Same H1 (upd H' D (.lst zs)) := fun H' acc sm h zs y o hy => by
    rw [upd_ne (ne_of_none hy hD)]; exact sm _ _ hy
  have hfl : ∀ {a b : List (List V)}, (a ++ b).flatten.length = a.flatten.length + b.flatten.length := fun {a b} => by rw [List.flatten_append, List.length_append]
  refine ⟨fun i m H => m = xs.length - i ∧ i ≤ xs.length ∧ Same H1 H ∧ H D = some (.lst ((yss.take i).flatten.filter f)), ⟨xs.length, by simp, Nat.zero_le _, same_new hD, by rw [List.take_zero]; exact upd_same⟩, ?_⟩
  rintro i m H ⟨rfl, hi, sm, hDl⟩
  have sq := sm.seq hx
  by_cases hlt : i < xs.length
  · refine .inr ⟨⟨xs, xs[i], sq, by simp [hlt]⟩, fun H' => Same H1 H' ∧ H' D = some (.lst ((yss.take (i + 1)).flatten.filter f)), fun H' p => ⟨xs.length - (i + 1), by omega, rfl, hlt, p.1, p.2⟩, fun x H' y => ?_⟩
    obtain ⟨rfl, hxy⟩ := y
    have hxi := hxy xs sq
    have hyi : yss[i]? = some yss[i] := List.getElem?_eq_getElem (by omega)
    have htk : (yss.take (i + 1)).flatten = (yss.take i).flatten ++ yss[i] := by
      rw [List.take_add_one, hyi, List.flatten_append]; simp
    have htot : ((yss.take i).flatten ++ yss[i]).length ≤ 1000 := by
      rw [← htk]
      have e : yss.flatten.length = (yss.take (i + 1)).flatten.length + (yss.drop (i + 1)).flatten.length := by rw [← hfl, List.take_append_drop]
      omega
    rw [List.length_append] at htot
    refine ⟨hw _, yesIte (hin i x _ _ _ hxi hyi sm fun b H4 s4 hb => ?_)⟩
    refine ⟨fun g k H => k = yss[i].length - g ∧ g ≤ yss[i].length ∧ Same H1 H ∧ H D = some (.lst (((yss.take i).flatten ++ yss[i].take g).filter f)), ⟨yss[i].length, by simp, Nat.zero_le _, sm.trans s4, by rw [List.take_zero, List.append_nil]; exact s4 _ _ hDl⟩, ?_⟩
    rintro g k H5 ⟨rfl, hg, sm5, hD5⟩
    have sq5 := hb H5 sm5
    by_cases hgl : g < yss[i].length
    · refine .inr ⟨⟨yss[i], yss[i][g], sq5, by simp [hgl]⟩, fun H' => Same H1 H' ∧ H' D = some (.lst (((yss.take i).flatten ++ yss[i].take (g + 1)).filter f)), fun H' p => ⟨yss[i].length - (g + 1), by omega, rfl, hgl, p.1, p.2⟩, fun z H6 yz => ?_⟩
      obtain ⟨rfl, hzz⟩ := yz
      have hzg := hzz _ sq5
      have hzm := List.mem_of_getElem? hzg
      have htg : (yss.take i).flatten ++ yss[i].take (g + 1) = ((yss.take i).flatten ++ yss[i].take g) ++ [z] := by
        rw [List.take_add_one, hzg, ← List.append_assoc]; rfl
      refine ⟨hw1 _ _, ht i x z _ _ _ hxi hyi hzm sm5 fun H7 s7 => ?_⟩
      have hD7 := s7 _ _ hD5
      cases hf : f z with
      | true =>
        rw [if_pos rfl]
        refine he i x z _ _ _ hxi hyi hzm ⟨_, hD7, small1000 ?_, step H7 _ (sm5.trans s7) hD7 _, ?_⟩
        · refine Nat.le_trans (List.length_filter_le _ _) ?_
          rw [List.length_append, List.length_take]; omega
        · rw [upd_same, htg, List.filter_append]
          simp [hf]
      | false =>
        rw [if_neg Bool.false_ne_true]
        refine ⟨sm5.trans s7, ?_⟩
        rw [hD7, htg, List.filter_append]
        simp [hf]
    · have eg : g = yss[i].length := by omega
      refine .inl ⟨⟨_, sq5, by omega⟩, sm5, ?_⟩
      rw [hD5, eg, List.take_length, htk]
  · have ei : i = xs.length := by omega
    refine .inl ⟨⟨xs, sq, by omega⟩, hd H sm ?_⟩
    rw [hDl, ei, ← hlen, List.take_length]
end Sg

set_option Elab.async false
set_option linter.all false
set_option maxRecDepth 100000
set_option maxHeartbeats 4000000
namespace Sg
open PySem PySem.Spec PyProof.Rows L2
theorem hu65 {k : Nat} {A : Around} (hr : Room k A) : A.units + 65 < cLine := by have := hr.un; omega
theorem shaped_list {ds : List PyData} (h : PyData.canLayAll0 ds = true) (h' : PyData.depthAll ds ≤ 63) : SeqAt.shaped (.list ds) = true :=
  shaped_of (by simpa [PyData.canLay0] using h) (by simp only [PyData.depth]; omega)
theorem paired_at {α β : Type} {F : α → β → Prop} : ∀ {a : List α} {b : List β} {i : Nat} {x : α}, Paired F a b → a[i]? = some x → ∃ y, b[i]? = some y ∧ F x y
  | _, _, 0, _, .cons r _, h => ⟨_, rfl, by rw [← Option.some.inj h]; exact r⟩
  | _, _, i + 1, x, .cons (a := p) _ t, h => paired_at (i := i) t (by simpa using h)
/-- a record, as data -/
def recDt (r : Rc) : PyData := .tuple (.int r.o :: .str (kindS r.b) :: .int r.h :: .int r.s :: .int r.c :: fldD r.b)
structure RGood (r : Rc) : Prop where
  t : tupOs (fldD r.b) = true
  l : (recDt r).canLay0 = true
  dp : (recDt r).depth ≤ 60
theorem RGood.sh {r : Rc} (g : RGood r) : SeqAt.shaped (recDt r) = true := shaped_of g.l (Nat.le_trans g.dp (by decide))
theorem RGood.sh1 {r : Rc} (g : RGood r) : SeqAt.shaped (.list [recDt r]) = true := shaped_list (by simp only [PyData.canLayAll0, g.l, Bool.and_self]) (by have := g.dp; simp only [PyData.depthAll]; omega)
theorem RecAt.dp {K : PySem.W.Frag} {H : Hp} {t : Addr} {r : Rc} (h : RecAt K H t r) : Dp K H (.ref t) (recDt r) := by
  obtain ⟨ys, a, b⟩ := h
  exact .tup a (.cons (.int _) (.cons (.str _) (.cons (.int _) (.cons (.int _) (.cons (.int _) b)))))
theorem RecAt.tk {K : PySem.W.Frag} {H H' : Hp} {t : Addr} {r : Rc} (h : RecAt K H t r) (g : RGood r) (s : TK H H') : RecAt K H' t r := by
  obtain ⟨ys, a, b⟩ := h
  exact ⟨ys, sqT_tk a s, dpAll_tk s _ _ g.t b⟩
/-! ### each_once -/
abbrev OE := Rc × Addr × Addr
def kvE (es : List OE) : List (Key × V) := es.map fun e => (Sum.inl e.1.o, V.ref e.2.2)
theorem es_val {n : Int} {v : V} : ∀ {es : List OE}, valV (kvE es) (Sum.inl n) = some v → ∃ e ∈ es, e.1.o = n ∧ v = .ref e.2.2
  | [], h => by cases h
  | e :: es, h => by
    by_cases z : e.1.o = n
    · have e1 : valV (kvE (e :: es)) (Sum.inl n) = some (.ref e.2.2) := valV_pos (p := (Sum.inl e.1.o, V.ref e.2.2)) (by rw [z])
      rw [e1] at h
      exact ⟨e, List.mem_cons_self, z, (Option.some.inj h).symm⟩
    · have e1 : valV (kvE (e :: es)) (Sum.inl n) = valV (kvE es) (Sum.inl n) := valV_neg (p := (Sum.inl e.1.o, V.ref e.2.2)) (fun y => z (Sum.inl.inj y))
      rw [e1] at h
      obtain ⟨x, hx, a, b⟩ := es_val h
      exact ⟨x, List.mem_cons_of_mem _ hx, a, b⟩
theorem es_none {n : Int} : ∀ {es : List OE}, valV (kvE es) (Sum.inl n) = none → ∀ e ∈ es, e.1.o ≠ n
  | [], _, e, he => nomatch he
  | x :: es, h, e, he => by
    have z : ¬ x.1.o = n := fun z => by
      have e1 : valV (kvE (x :: es)) (Sum.inl n) = some (.ref x.2.2) := valV_pos (p := (Sum.inl x.1.o, V.ref x.2.2)) (by rw [z])
      rw [e1] at h; cases h
    have e1 : valV (kvE (x :: es)) (Sum.inl n) = valV (kvE es) (Sum.inl n) := valV_neg (p := (Sum.inl x.1.o, V.ref x.2.2)) (fun y => z (Sum.inl.inj y))
    rw [e1] at h
    rcases List.mem_cons.mp he with rfl | he
    · exact z
    · exact es_none h e he
theorem nodup_key {x y : OE} : ∀ {es : List OE}, (es.map (·.1.o)).Nodup → x ∈ es → y ∈ es → x.1.o = y.1.o → x = y
  | [], _, h, _, _ => nomatch h
  | e :: es, nd, hx, hy, h => by
    rw [List.map_cons, List.nodup_cons] at nd
    rcases List.mem_cons.mp hx with a | a <;> rcases List.mem_cons.mp hy with b | b
    · rw [a, b]
    · exact absurd (show e.1.o ∈ es.map (·.1.o) from List.mem_map.mpr ⟨y, b, by rw [← h, a]⟩) nd.1
    · exact absurd (show e.1.o ∈ es.map (·.1.o) from List.mem_map.mpr ⟨x, a, by rw [h, b]⟩) nd.1
    · exact nodup_key nd.2 a b h
theorem es_get {es : List OE} (nd : (es.map (·.1.o)).Nodup) {e : OE} (he : e ∈ es) : valV (kvE es) (Sum.inl e.1.o) = some (.ref e.2.2) := by
  cases h : valV (kvE es) (Sum.inl e.1.o) with
  | none => exact absurd rfl (es_none h e he)
  | some v =>
    obtain ⟨x, hx, a, b⟩ := es_val h
    have : x = e := nodup_key nd hx he a
    rw [b, this]
def eOf (es : List OE) (m : Int) : OE := (es.find? fun e => decide (e.1.o = m)).getD (⟨0, 0, 0, 0, .snap 0⟩, 0, 0)
theorem eOf_at {es : List OE} (nd : (es.map (·.1.o)).Nodup) {e : OE} (he : e ∈ es) : eOf es e.1.o = e := by
  unfold eOf
  cases h : es.find? (fun x => decide (x.1.o = e.1.o)) with
  | none =>
    have := List.find?_eq_none.mp h e he
    simp at this
  | some x =>
    have h1 := List.find?_some h
    have h2 := List.mem_of_find?_eq_some h
    exact nodup_key nd h2 he (of_decide_eq_true h1)
theorem flat_one {α β : Type} (g : α → β) : ∀ l : List α, (l.map fun m => [g m]).flatten = l.map g
  | [] => rfl
  | m :: l => by rw [List.map_cons, List.flatten_cons, flat_one g l]; rfl
theorem paired_map2 {α β γ : Type} {F : β → γ → Prop} {g : α → β} {h : α → γ} : ∀ {l : List α}, (∀ x ∈ l, F (g x) (h x)) → Paired F (l.map g) (l.map h)
  | [], _ => .nil
  | x :: l, hl => .cons (hl x List.mem_cons_self) (paired_map2 fun y hy => hl y (List.mem_cons_of_mem _ hy))
def spOnce (K : PySem.W.Frag) : Sp := fun vs H Q _ => ∃ (a : Addr) (ts : List Addr) (rs : List Rc), vs = [.ref a] ∧ SqL K H a (ts.map V.ref) ∧ Paired (RecAt K H) ts rs ∧ rs.length ≤ 1000 ∧ (∀ r ∈ rs, RGood r) ∧ (∀ x ∈ rs, ∀ y ∈ rs, x.o = y.o → x = y) ∧
  ∀ l ts' rs' H', Same H H' → H l = Option.none → H' l = some (.lst (ts'.map V.ref)) → Paired (RecAt K H') ts' rs' → rs'.Pairwise (fun x y => x.o < y.o) → (∀ r, r ∈ rs' ↔ r ∈ rs) → Q (.ref l) H'
section
variable {P : Program} {wd : World} {K : PySem.W.Frag} {mg : Str → Option Value} {base : Heap} {f : Addr} {fd : FuncData}
end
end Sg

set_option Elab.async false
set_option linter.all false
set_option maxRecDepth 100000
set_option maxHeartbeats 4000000
namespace Sg
open PySem PySem.Spec PyProof.Rows L2
section
variable {prog : Program} {w : World} {K : Type} [DecidableEq K] {knd : KeyKind prog w K} {A : Around} {E : Value → Shared → Prop} {s : Shared}
theorem wp_dictPut {d : Addr} {kvs : List (K × Value)} {k : K} {key v : Value} {Q : Unit → Shared → Prop} (hkey : knd.is k key = true) (hm : s.heap.DictOf knd d kvs)
    (hQ : ∀ h', h'.DictOf knd d (stored kvs k v) → Heap.SameBut d s.heap h' → Q () { s with heap := h' }) (hsz : kvs.length ≤ sizeLine) :
    wpAny (model prog w) A (dictPut d (knd.hash k) key v) Q E s := by
  obtain ⟨o, es, ep, ho, hc, hd, hk, hp, hn⟩ := hm
  have hes : es.size ≤ sizeLine := by have e1 := hp.length; have e2 : es.toList.length = es.size := by simp
                                      omega
  unfold dictPut
  refine wpAny_bind (wpAny_dictFind_of hkey ho hd hk ?_)
  have hidx : (es.findIdx? fun e => knd.is k e.key) = kvs.findIdx? fun kv => decide (kv.1 = k) := by
    rw [← hp.findIdx k]; obtain ⟨l⟩ := es; simp
  cases hi : es.findIdx? fun e => knd.is k e.key with
  | some i =>
    refine wpAny_updateDict ho hd (hQ _ ⟨_, _, ep, Heap.get?_update_self _ ho (Obj.isFreed_of_dict (Obj.data_mapDict hd _)),
      hc.mapDict _, Obj.data_mapDict hd _, hk.modify _ _, ?_, ?_⟩ (Heap.SameBut.update ..))
    · rw [stored, if_pos (any_of_findIdx_some (hidx ▸ hi))]
      have hl : (es.toList.findIdx? fun e => knd.is k e.key) = some i := by rw [← hi]; obtain ⟨l⟩ := es; simp
      have := hp.modify hn hl v
      obtain ⟨l⟩ := es
      simpa using this
    · rw [stored, if_pos (any_of_findIdx_some (hidx ▸ hi)), keys_map_store]; exact hn
  | none =>
    have hnot : k ∉ kvs.map (·.1) := not_mem_of_findIdx_none (hidx ▸ hi)
    have hany : ¬ (kvs.any fun kv => decide (kv.1 = k)) = true := by
      rw [List.any_eq_true]; rintro ⟨kv, hkv, he⟩
      exact hnot (List.mem_map.mpr ⟨kv, hkv, of_decide_eq_true he⟩)
    refine wpAny_updateDictKeys (hz := hes) ho hd (hQ _ ⟨_, _, ep + 1, Heap.get?_update_self _ ho (Obj.isFreed_of_dict (Obj.data_mapDictKeys hd _)),
      hc.mapDictKeys _, Obj.data_mapDictKeys hd _, hk.push hkey _, ?_, ?_⟩ (Heap.SameBut.update ..))
    · rw [stored, if_neg hany]
      have := hp.append hkey (knd.hash k) v
      obtain ⟨l⟩ := es
      simpa using this
    · rw [stored, if_neg hany, List.map_append, List.nodup_append]
      refine ⟨hn, by simp, ?_⟩
      intro x hx y hy
      rw [show y = k by simpa using hy]
      intro e
      exact hnot (by rw [← e]; exact hx)
theorem merge_loop {d a : Addr} {kvs more : List (K × Value)} {Q : Unit → Shared → Prop} (hda : d ≠ a) (hd : s.heap.DictOf knd d kvs) (ha : s.heap.DictOf knd a more) (hsz : kvs.length + more.length ≤ sizeLine)
    (hQ : ∀ h', h'.DictOf knd d (merged kvs more) → h'.DictOf knd a more → Heap.SameBut d s.heap h' → Q () { s with heap := h' }) :
    wpAny (model prog w) A (do
      let l ← dictEntries a
      let epoch ← dictEpoch a
      forIn (List.range l.size) PUnit.unit fun i (_ : PUnit) => (do
          let l' ← dictEntries a
          match l'[i]? with
            | some e => do
              holding [e.key, e.val] (dictPut d e.hash e.key e.val)
              let ep' ← dictEpoch a
              if (ep' != epoch) = true then do
                  (unsupported "dict.changed-during-merge" : Sem PUnit)
                  pure (ForInStep.yield PUnit.unit)
                else pure (ForInStep.yield PUnit.unit)
            | _ => do
              (unsupported "dict.changed-during-merge" : Sem PUnit)
              pure (ForInStep.yield PUnit.unit) : Sem (ForInStep PUnit))
      pure ()) Q E s := by
  obtain ⟨oo, eso, epo, hoo, hco, hdo', hko, hpo, hno⟩ := id ha
  have hlen : more.length = eso.size := by have e1 := hpo.length; have e2 : eso.toList.length = eso.size := by simp
                                           omega
  refine wpAny_bind (wpAny_dictEntries hoo hdo' ?_)
  refine wpAny_bind (wpAny_dictEpoch hoo hdo' ?_)
  refine wpAny_bind ?_
  rw [List.range_eq_range']
  refine wpAny_forIn_list _
    (fun rest _ s' => ∃ h' i, s' = { s with heap := h' } ∧ rest = List.range' i (eso.size - i) ∧ i ≤ eso.size ∧ h'.DictOf knd d (merged kvs (more.take i)) ∧ h'.get? a = some oo ∧ Heap.SameBut d s.heap h')
    _ ?_ ?_ _ _ ⟨s.heap, 0, rfl, by simp, Nat.zero_le _, by simpa [merged] using hd, hoo, Heap.SameBut.refl _ _⟩
  · rintro x rest b s' ⟨h', i, rfl, hr, hi, hd', hoo', hs'⟩
    have hlt : i < eso.size := by
      rcases Nat.lt_or_ge i eso.size with h | h
      · exact h
      · rw [Nat.sub_eq_zero_of_le h] at hr; simp at hr
    obtain ⟨rfl, hrest⟩ : x = i ∧ rest = List.range' (i + 1) (eso.size - (i + 1)) := by
      have e : eso.size - i = (eso.size - (i + 1)) + 1 := by omega
      rw [e, List.range'_succ] at hr
      injection hr with h1 h2
      exact ⟨h1, h2⟩
    refine wpAny_bind (wpAny_dictEntries hoo' hdo' ?_)
    rw [Array.getElem?_eq_getElem hlt]
    obtain ⟨kv, hkv⟩ : ∃ kv, more[x]? = some kv := ⟨more[x]'(by rw [hlen]; exact hlt), List.getElem?_eq_getElem _⟩
    obtain ⟨k, v⟩ := kv
    obtain ⟨hkey, hval⟩ := hpo.get? (e := eso[x]) (by simp [hlt]) hkv
    obtain ⟨k', hkey', hhash⟩ := hko eso[x] (Array.getElem_mem hlt)
    obtain rfl : k' = k := knd.inj _ _ _ hkey' hkey
    show wpAny _ _ (holding [eso[x].key, eso[x].val] (dictPut d eso[x].hash eso[x].key eso[x].val) >>= _) _ _ _
    rw [hhash, hval]
    have hmx : (merged kvs (more.take x)).length ≤ sizeLine := by
      have e1 := merged_length_le kvs (more.take x)
      have e2 : (more.take x).length ≤ more.length := by rw [List.length_take]; omega
      omega
    refine wpAny_bind (wpAny_holding (wp_dictPut hkey hd' (fun h'' hd'' hs'' => ?_) hmx))
    have hoo'' : h''.get? a = some oo := (hs''.2 a (Ne.symm hda)).trans hoo'
    refine wpAny_bind (wpAny_dictEpoch hoo'' hdo' ?_)
    rw [if_neg (by simp)]
    exact wpAny_pure ⟨h'', x + 1, rfl, hrest, hlt, by rw [merged_take_succ kvs more x (k', v) hkv]; exact hd'', hoo'', hs'.trans hs''⟩
  · rintro b s' ⟨h', i, rfl, hr, hi, hd', hoo', hs'⟩
    have hin : i = eso.size := by
      rcases Nat.lt_or_ge i eso.size with h | h
      · have e : eso.size - i = (eso.size - (i + 1)) + 1 := by omega
        rw [e, List.range'_succ] at hr; exact nomatch hr
      · exact Nat.le_antisymm hi h
    refine wpAny_pure (hQ h' ?_ ⟨oo, eso, epo, hoo', hco, hdo', hko, hpo, hno⟩ hs')
    rw [hin, ← hlen, List.take_length] at hd'; exact hd'
theorem wp_merge {d a : Addr} {kvs more : List (K × Value)} {Q : Unit → Shared → Prop} (hda : d ≠ a) (haS : (a == sysModules) = false) (hnr : ∀ k x, knd.is k (.ref x) = false) (hd : s.heap.DictOf knd d kvs) (ha : s.heap.DictOf knd a more) (hsz : kvs.length + more.length ≤ sizeLine)
    (hQ : ∀ h', h'.DictOf knd d (merged kvs more) → h'.DictOf knd a more → Heap.SameBut d s.heap h' → Q () { s with heap := h' }) :
    wpAny (model prog w) A (mergeMapping d (.ref a) false) Q E s := by
  unfold mergeMapping
  refine wpAny_bind (wpAny_isInstance ha.typeIs isSubtype_dict_dict ?_)
  rw [if_pos rfl]
  refine wpAny_bind (wpAny_specialOf ha.typeIs F.slot_dict_iter.lookup ?_)
  dsimp only
  refine wpAny_bind (wpAny_pure ?_)
  rw [show (some (Value.builtin "dict.__iter__") == some (Value.builtin "dict.__iter__")) = true from by decide]
  dsimp only
  rw [haS]
  simp only [Bool.false_eq_true, if_false]
  obtain ⟨od, esd, epd, hod, hcd, hdd, hkd, hpd, hnd⟩ := id hd
  obtain ⟨oo, eso, epo, hoo, hco, hdo', hko, hpo, hno⟩ := id ha
  refine wpAny_bind (wpAny_dictEntries hod hdd ?_)
  split
  · refine wpAny_bind (wpAny_dictEntries hoo hdo' ?_)
    refine wpAny_bind ?_
    rw [← Array.forIn_toList]
    refine wpAny_forIn_list _ (fun rest _ s' => s' = s ∧ ∀ e ∈ rest, e ∈ eso.toList) _ ?_ ?_ _ _ ⟨rfl, fun e h => h⟩
    · rintro e rest b s' ⟨rfl, hr⟩
      obtain ⟨k, hk, _⟩ := hko e (by simpa using hr e List.mem_cons_self)
      have : ∀ x, e.key ≠ .ref x := fun x hx => by rw [hx, hnr] at hk; cases hk
      cases hkk : e.key with
      | ref x => exact absurd hkk (this x)
      | _ => exact wpAny_pure ⟨rfl, fun y hy => hr y (List.mem_cons_of_mem _ hy)⟩
    · rintro b s' ⟨rfl, _⟩
      exact merge_loop hda hd ha hsz hQ
  · exact merge_loop hda hd ha hsz hQ
end
end Sg

set_option Elab.async false
set_option linter.all false
set_option maxRecDepth 100000
set_option maxHeartbeats 4000000
namespace Sg
open PySem PySem.Spec PyProof.Rows L2
theorem wp_display_star {v1 k v : Sem Value} {Q : Value → Shared → Prop} {M : Model} {A : Around} {E : Value → Shared → Prop} {s : Shared}
    (h : wpAny M A v1 (fun m s1 => wpAny M A (mergeMapping s.heap.objs.size m false) (fun _ s2 => wpAny M A (subDict [(k, v)]) (fun sub s3 => wpAny M A (mergeMapping s.heap.objs.size (.ref sub) false) (fun _ s4 => Q (.ref s.heap.objs.size) s4) (fun _ _ => False) s3) E s2) (fun _ _ => False) s1) E { s with heap := s.heap.push { cls := .type "dict", data := .dict #[] } }) :
    wpAny M A (dictDisplay [(none, v1), (some k, v)]) Q E s := by
  unfold dictDisplay
  simp only [List.forIn_cons, List.forIn_nil]
  refine wpAny_bind (wpAny_bind (wpAny_bind ?_))
  rw [if_pos (by rfl)]
  refine wpAny_pure ?_
  dsimp only
  refine wpAny_bind (wpAny_alloc (wpAny_bind (wpAny_holding (wpAny_mono h (fun m s1 h1 => ?_) fun _ _ e => e))))
  refine wpAny_bind (wpAny_onRaise (wpAny_tryCatch (wpAny_onRaise (wpAny_holding (wpAny_mono h1 (fun _ s2 h2 => ?_) fun _ _ h => h.elim)))))
  refine wpAny_pure ?_
  dsimp only
  refine wpAny_bind ?_
  rw [if_neg (by simp)]
  refine wpAny_pure (wpAny_pure ?_)
  dsimp only
  refine wpAny_bind ?_
  rw [if_neg (by simp)]
  refine wpAny_bind (wpAny_holding (wpAny_mono h2 (fun sub s3 h3 => ?_) fun _ _ e => e))
  refine wpAny_bind (wpAny_onRaise (wpAny_holding (wpAny_mono h3 (fun _ s4 h4 => ?_) fun _ _ h => h.elim)))
  exact wpAny_pure (wpAny_pure h4)
end Sg

set_option Elab.async false
set_option linter.all false
set_option maxRecDepth 100000
set_option maxHeartbeats 4000000
namespace Sg
open PySem PySem.Spec PyProof.Rows L2
/-! ### {**d, k: v}: the keys whole numbers and texts -/
theorem mix_noref {P : Program} {w : World} (k : Key) (x : Addr) : (mixKind P w).is k (.ref x) = false := by
  cases k <;> rfl
section
variable {X : Cx} {pins : List (Addr × Obj)} {σ : L2.St} {H : Hp} {s : Shared} {A : Around} {E : Value → Shared → Prop}
theorem d_merge {D a : Addr} {ks ls : List (Key × V)} {Q : Unit → Shared → Prop} (I : L2.Inv X pins σ H s) (hD : H D = some (.dK ks)) (ha : Rd H a (.dK ls)) (hda : D ≠ a) (hz : ks.length + ls.length ≤ sizeLine) (h : ∀ s', L2.Inv X pins σ (upd H D (.dK (mergeK ks ls))) s' → Q () s') :
    wpAny (model X.prog X.w) A (mergeMapping D (.ref a) false) Q E s := by
  obtain ⟨z, hd, vs, rel, dd⟩ := dk_of I.hok hD
  obtain ⟨z', hs', ws, rel', dd'⟩ := dk_rd I.hok ha
  have l1 := rel.length
  have l2 := rel'.length
  have hl := length_mergeK ls ks
  refine wp_merge hda hs' mix_noref dd dd' (by omega) fun h' d1 d2 hs => h _ ?_
  have he : ∃ q, h'.get? D = some q := let ⟨q, _, _, hq, _⟩ := d1; ⟨q, hq⟩
  exact d_write I (by rw [hD]; exact True.intro) hs he (dk_new (by omega) hd (rel'.merge rel) d1)
end
def tDStar (t1 tk tv : TE) : TE := fun σ H Q => ∀ D, H D = none → t1 σ (upd H D (.dK [])) fun x H1 => ∃ a ls, x = .ref a ∧ Rd H1 a (.dK ls) ∧ D ≠ a ∧ H1 D = some (.dK []) ∧ ls.length < sizeLine ∧
  ∀ S, (upd H1 D (.dK (mergeK [] ls))) S = none → tk σ (upd (upd H1 D (.dK (mergeK [] ls))) S (.dK [])) fun y H2 => tv σ H2 fun z H3 => ∃ k, y = kV k ∧ H3 D = some (.dK (mergeK [] ls)) ∧ H3 S = some (.dK []) ∧ D ≠ S ∧
    Q (.ref D) (upd (upd H3 S (.dK [(k, z)])) D (.dK (putK (mergeK [] ls) k z)))
section
variable {X : Cx} {e1 k v : Expr} {t1 tk tv : TE} {pos : Pos}
theorem pe_dstar (h1 : PE X e1 t1) (hk : PE X k tk) (hv : PE X v tv) : PE X (.Dict [none, some k] [e1, v] pos) (tDStar t1 tk tv) := by
  refine ⟨fun pins s σ H Q I q => ?_⟩
  rw [arm_eval_Dict]
  refine wpAny_bind (wpAny_standAt ?_)
  have hn := I.hok.fresh (Nat.le_refl s.heap.objs.size)
  have I1 := I.laid (a := s.heap.objs.size) (o := .dK []) (h' := s.heap.push { cls := .type "dict", data := .dict #[] }) (t' := s.toks) (fun _ _ q => Heap.get?_push_of_some _ q) (Nat.le_refl _) (dk_empty s.heap I.big)
  refine wp_display_star (v1 := do let x ← eval e1 X.env; standAt pos; pure x) (k := eval k X.env) (v := do let x ← eval v X.env; standAt pos; pure x) ?_
  refine wpAny_bind (thn (h1.run pins _ σ _ _ I1 (q _ hn)) fun u s1 ⟨x, H1, I2, rx, a, ls, ex, ha, hda, hD, hz, q2⟩ => ?_)
  refine wpAny_bind (wpAny_standAt (wpAny_pure ?_))
  subst ex
  obtain rfl : u = Value.ref a := rx
  refine d_merge I2 hD ha hda (by simp only [List.length_nil]; omega) fun s2 I3 => ?_
  have hS := I3.hok.fresh (Nat.le_refl s2.heap.objs.size)
  have I4 := I3.laid (a := s2.heap.objs.size) (o := .dK []) (h' := s2.heap.push { cls := .type "dict", data := .dict #[] }) (t' := s2.toks) (fun _ _ q => Heap.get?_push_of_some _ q) (Nat.le_refl _) (dk_empty s2.heap I3.big)
  have q3 := q2 _ hS
  refine wpAny_subDict (knd := mixKind X.prog X.w) (by simp) ?_
  refine wpAny_bind (thn (hk.run pins _ σ _ _ I4 q3) fun kv s3 ⟨y, H2, I5, ry, q4⟩ => ?_)
  refine wpAny_bind (wpAny_holding (wpAny_bind (thn (hv.run pins _ σ _ _ I5 q4) fun vv s4 ⟨z, H3, I6, rz, kk, ey, hD3, hS3, hne, q5⟩ => wpAny_bind (wpAny_standAt (wpAny_pure ?_)))))
  refine wpAny_bind (wpAny_holding (wpAny_pure (wpAny_pure ?_)))
  subst ey
  obtain ⟨_, hd, vs0, r0, dd⟩ := dk_of I6.hok hS3
  cases r0
  have rk : KV [(kk, z)] [(kk, vv)] := .cons ⟨rfl, rz⟩ .nil
  refine ⟨[(kk, vv)], ⟨kV_is ry, rfl, True.intro⟩, dd, fun h' dd' hs => ?_⟩
  have he : ∃ q, h'.get? s2.heap.objs.size = some q := let ⟨q, _, _, hq, _⟩ := dd'; ⟨q, hq⟩
  have I7 := d_write (t' := s4.toks + 1) I6 (by rw [hS3]; exact True.intro) hs he (dk_new (kvs := [(kk, z)]) (by rw [sizeLine_eq]; simp) hd rk dd')
  have hlm := length_mergeK ls []
  have hne' : s.heap.objs.size ≠ s2.heap.objs.size := hne
  refine d_merge I7 (D := s.heap.objs.size) (a := s2.heap.objs.size) (ks := mergeK [] ls) (ls := [(kk, z)]) (by rw [upd_ne hne']; exact hD3) (.inl upd_same) hne' (by simp only [List.length_nil, List.length_cons] at *; omega) fun s5 I8 => ?_
  exact ⟨.ref s.heap.objs.size, _, I8, rfl, q5⟩
end
end Sg

set_option Elab.async false
set_option linter.all false
set_option maxRecDepth 100000
set_option maxHeartbeats 4000000
namespace Sg
open PySem PySem.Spec PyProof.Rows L2
/-! ### a dict comprehension, the keys of either kind -/
section
variable {X : Cx} {pins : List (Addr × Obj)} {σ : L2.St} {H H' : Hp} {s : Shared}
theorem d_compSet {D : Addr} {y v : V} {u r : Value} {E : Value → Shared → Prop} {Q : Unit → Shared → Prop} (hu : X.A.units < cLine) (I : L2.Inv X pins σ H s) (g : DPut H D y v H') (ry : RelV y u) (rv : RelV v r) (h : ∀ s', L2.Inv X pins σ H' s' → Q () s') :
    wpAny (model X.prog X.w) X.A (dictSet D u r) Q E s := by
  rcases g with ⟨kvs, k, e, ey, l, eH⟩ | ⟨kvs, k, b, e, ey, eb, l, eH⟩
  · subst ey eH
    exact d_dictSet I e l ry rv h
  · subst ey eH
    obtain rfl : u = Value.ref b := ry
    obtain ⟨z, hd, xs, rel, dd⟩ := dt_of I.hok e
    have lx := Paired.length rel
    have lp := length_putK kvs k v
    refine wpAny_dictSet_heap (hsz := by omega) hu (key_of I.hok eb) dd fun h' dd' hs => h _ ?_
    obtain ⟨o, es, ep, ho, r2, r3, r4, _, r5⟩ := dd'
    refine d_write I (by rw [e]; exact True.intro) hs ⟨o, ho⟩ ⟨by omega, hd, _, (rel.put k eb rv).keeps fun c ys ec => ?_, o, es, ep, ho, r2, r3, r4, r5⟩
    rw [upd_ne (ne_of ec e fun w => nomatch w)]; exact ec
end
/-- an empty dict, whichever keys it will have -/
def EmD (o : HO) : Prop := o = .dK [] ∨ o = .dT []
theorem EmD.mut {o : HO} (h : EmD o) : Mut (some o) := by rcases h with rfl | rfl <;> exact True.intro
/-- one turn of the loop: the state behind it (hN) or the walk's end (hE) -/
abbrev DcTurn (J : It) (g : TG) (tt : TT) (tk tv : TE) (σ : L2.St) (vs : List Nat) (D : Addr) (W : Nat → Nat → Hp → Prop) (Qd : Hp → Prop) : Prop := ∀ i m H, W i m H →
  (J.stop i H ∧ Qd H) ∨ (J.go i H ∧ ∃ Nx : Hp → Prop, (∀ H', Nx H' → ∃ m', m' < m ∧ W (i + 1) m' H') ∧ ∀ x H', J.yld i H x H' → g x (wipe σ vs) H' fun σ2 H2 => wipe σ2 vs = wipe σ vs ∧ tt σ2 H2 fun b H3 =>
    if b = true then tk σ2 H3 fun y H4 => tv σ2 H4 fun z H5 => ∃ H6, DPut H5 D y z H6 ∧ Nx H6 else Nx H3)
def tDcP (wi : TI) (g : TG) (tt : TT) (tk tv : TE) (vs : List Nat) : TE := fun σ H Q => wi σ H fun J H1 => ∀ D, H1 D = none → ∃ o, EmD o ∧ ∃ W : Nat → Nat → Hp → Prop, (∃ m, W 0 m (upd H1 D o)) ∧ DcTurn J g tt tk tv σ vs D W fun H => Q (.ref D) H
/-- the things that a block of a comprehension is given -/
structure DcIn (X : Cx) (kx vx tg : Expr) (ifs : List Expr) (scope : Scope) (g : TG) (tt : TT) (tk tv : TE) : Prop where
  g : ∀ (s : Shared) (H : Hp) (C : Addr) (cl : List (Str × Addr)) (fp : List Addr), PG (X.blk s H scope (compEnvC scope cl C X.env) fp) tg g
  t : ∀ (s : Shared) (H : Hp) (C : Addr) (cl : List (Str × Addr)) (fp : List Addr), PTs (X.blk s H scope (compEnvC scope cl C X.env) fp) ifs tt
  k : ∀ (s : Shared) (H : Hp) (C : Addr) (cl : List (Str × Addr)) (fp : List Addr), PE (X.blk s H scope (compEnvC scope cl C X.env) fp) kx tk
  v : ∀ (s : Shared) (H : Hp) (C : Addr) (cl : List (Str × Addr)) (fp : List Addr), PE (X.blk s H scope (compEnvC scope cl C X.env) fp) vx tv
section
variable {X : Cx}
theorem laid_em {pins : List (Addr × Obj)} {σ : L2.St} {H : Hp} {s : Shared} {o : HO} (I : L2.Inv X pins σ H s) (ho : EmD o) : L2.Inv X pins σ (upd H s.heap.objs.size o) { s with heap := s.heap.push { cls := .type "dict", data := .dict #[] } } := by
  refine I.laid (t' := s.toks) (fun b u e => Heap.get?_push_of_some _ e) (Nat.le_refl _) ?_
  rcases ho with rfl | rfl
  · exact dk_empty s.heap I.big
  · exact dt_empty s.heap I.big
end
end Sg

set_option Elab.async false
set_option linter.all false
set_option maxRecDepth 100000
set_option maxHeartbeats 4000000
namespace Sg
open PySem PySem.Spec PyProof.Rows L2
/-! ### the loop of such a comprehension's block, then the whole -/
section
variable {X : Cx}
theorem dcp_loop {s0 : Shared} {H0 : Hp} {scope : Scope} {ce : Env} {fp : List Addr} {kx vx tg iter : Expr} {ifs : List Expr} {pos : Pos} {g : TG} {tt : TT} {tk tv : TE} {it D : Addr} {J : It} {tn : Nat → Heap → Prop} {σ : L2.St} {vs : List Nat} {W : Nat → Nat → Hp → Prop} {Qd : Hp → Prop} {R : Result → Shared → Prop}
    (hc : X.calm = true) (hu : X.A.units < cLine) (T : Turn X.prog X.w X.K tg J fp it tn) (pg : PG (X.blk s0 H0 scope ce fp) tg g) (pt : PTs (X.blk s0 H0 scope ce fp) ifs tt) (pk : PE (X.blk s0 H0 scope ce fp) kx tk) (pv : PE (X.blk s0 H0 scope ce fp) vx tv)
    (turn : DcTurn J g tt tk tv σ vs D W Qd) (hR : ∀ H s, L2.Inv (X.blk s0 H0 scope ce fp) [] (wipe σ vs) H s → Qd H → R (.ok .next) s)
    {H : Hp} {s : Shared} {m : Nat} (I : L2.Inv (X.blk s0 H0 scope ce fp) [] (wipe σ vs) H s) (ht : tn 0 s.heap) (hf : ∀ b ∈ fp, H b = none) (hW : W 0 m H) :
    codeAny (model X.prog X.w) X.A (.compLoop (.DictComp kx vx [⟨tg, iter, ifs, 0⟩] scope pos) 0 (.ref it) (.ref D) ce) R s := by
  have good : ∀ {τ : L2.St} {G : Hp} {u : Shared}, L2.Inv (X.blk s0 H0 scope ce fp) [] τ G u → (∀ b ∈ fp, G b = none) → ∀ b ∈ fp, FpOk (X.blk s0 H0 scope ce fp) [] G b := fun {τ G u} I' n b hb => by
    have q := I'.ok.exf b hb
    refine ⟨n b hb, q.1, I'.ok.exfs b hb, .inl hb, fun x c e => q.2 x c e, fun p hp => ?_⟩
    rcases List.mem_append.mp hp with z | z <;> cases z
  refine compLoop_anyD (fun n u => ∃ i G, L2.Inv (X.blk s0 H0 scope ce fp) [] (wipe σ vs) G u ∧ tn i u.heap ∧ (∀ b ∈ fp, G b = none) ∧ W i n G) (fun n u hu' => ?_) m ⟨0, H, I, ht, hf, hW⟩
  obtain ⟨i, G, J1, t1, f1, w1⟩ := hu'
  rcases turn i n G w1 with ⟨st, qd⟩ | ⟨go, Nx, nx, step⟩
  · refine thnF (T.done (X.blk s0 H0 scope ce fp) rfl rfl rfl hc i [] u _ G (fun _ _ => False) J1 (good J1 f1) t1 st) fun r u1 ⟨er, J2⟩ => ?_
    subst er
    exact hR G u1 J2 qd
  · refine thnF (T.item (X.blk s0 H0 scope ce fp) rfl rfl rfl hc i [] u _ G (fun _ _ => False) J1 (good J1 f1) t1 go) fun r u1 ⟨a, er, h1⟩ => ?_
    subst er
    refine thnF h1 fun _ u2 ⟨x, G2, J2, rx, y2, t2, f2⟩ => ?_
    have J2p := J2.pinned (good J2 f2) (T.obj _ _ t2)
    have back : ∀ {τ : L2.St} {G' : Hp} {u' : Shared}, L2.Inv (X.blk s0 H0 scope ce fp) ([] ++ pinsAt fp u2.heap) τ G' u' → wipe τ vs = wipe σ vs → Nx G' → ∃ n', n' < n ∧ ∃ i G, L2.Inv (X.blk s0 H0 scope ce fp) [] (wipe σ vs) G u' ∧ tn i u'.heap ∧ (∀ b ∈ fp, G b = none) ∧ W i n' G := fun {τ G' u'} J' ew q => by
      obtain ⟨n', lt, w'⟩ := nx G' q
      have at' : ∀ b ∈ fp, ∀ o, u2.heap.get? b = some o → u'.heap.get? b = some o ∧ G' b = none := fun b hb o e => by
        have z := J'.pin (b, o) (List.mem_append_right _ (List.mem_append_right _ (mem_pinsAt hb e)))
        exact ⟨z.1, z.2.1⟩
      refine ⟨n', lt, i + 1, G', (J'.unpinned (pins := [])).weak (by rw [← ew, wipe_length]) (fun j v e => ?_), T.keep _ _ _ t2 fun b hb o e => (at' b hb o e).1, fun b hb => ?_, w'⟩
      · rw [← ew] at e; exact (wipe_some e).1
      · obtain ⟨o, e, _⟩ := T.obj _ _ t2 b hb
        exact (at' b hb o e).2
    refine thnF (pg.run _ u2 _ G2 x a _ J2p rx (step x G2 y2)) fun _ u3 ⟨τ, G3, J3, ew, q3⟩ => ?_
    refine thnF (pt.run _ u3 τ G3 _ J3 q3) fun b u4 ⟨G4, J4, q4⟩ => ?_
    cases b
    · rw [if_neg Bool.false_ne_true] at q4 ⊢
      exact back J4 ew q4
    · rw [if_pos rfl] at q4 ⊢
      refine thnF (pk.run _ u4 τ G4 _ J4 q4) fun k1 u5 ⟨y, G5, J5, ry, q5⟩ => ?_
      refine thnF (pv.run _ u5 τ G5 _ J5 q5) fun v1 u6 ⟨z, G6, J6, rz, G7, put, q7⟩ => ?_
      exact d_compSet (X := X.blk s0 H0 scope ce fp) hu J6 put ry rz fun u7 J7 => back J7 ew q7
theorem dcP_core {pins : List (Addr × Obj)} {s : Shared} {σ : L2.St} {H : Hp} {Q : VK} {kx vx tg iter : Expr} {ifs : List Expr} {scope : Scope} {own : List (Str × Nat)} {pos pos' : Pos} {wi : TI} {g : TG} {tt : TT} {tk tv : TE} {use : Option (Value → Sem Unit)} {Z : Value → Shared → Prop}
    (hc : X.calm = true) (hu : X.A.units < cLine) (hN : X.N.Nodup) (I : L2.Inv X pins σ H s) (hi : PI X tg iter wi) (ok : BlkOk X.N X.env.scope scope own)
    (inn : DcIn X kx vx tg ifs scope g tt tk tv) (hs : ∀ x, foldedSetIterable iter X.env x = pure x) (h : tDcP wi g tt tk tv (own.map (·.2)) σ H Q)
    (last : ∀ D C u m G, L2.Inv X pins σ G u → Q (.ref D) G → u.heap.Ns C m → FpOk X pins G C → compPost (model X.prog X.w) X.A X.xe use Z (.ref D) C (.ok .next) u) :
    wpAny (model X.prog X.w) X.A (comprehension (.DictComp kx vx [⟨tg, iter, ifs, 0⟩] scope pos) scope X.env pos' newDict false (eval iter X.env) use) Z X.xe s := by
  have clo : ∀ y ∈ scope.names, y.2 = .free → ∃ c, X.env.cells.lookup y.1 = some c := fun y hy e => (ok.free y hy e).elim (fun k => I.ok.has _ (.inl k)) fun k => I.ok.has _ (.inr k)
  refine wpAny_comprehension_free (use := use) rfl hs (closure_ok clo) ok.kind (fun y hy e => by rw [ok.uniq y hy, e]) (thn (hi.run pins s σ H _ I h) fun xv s1 hx => thn hx fun itv s2 h2 => ?_)
  obtain ⟨it, fp, tn, J, H2, rfl, I2, T, t2, f2, q⟩ := h2
  have lt2 : ∀ b ∈ fp, b < s2.heap.objs.size := fun b hb => by
    obtain ⟨o, e, _⟩ := T.obj _ _ t2 b hb
    exact Heap.lt_size e
  obtain ⟨o, em, W, ⟨m0, w0⟩, turn⟩ := q s2.heap.objs.size (I2.hok.fresh (Nat.le_refl _))
  have I3 := laid_em I2 em
  refine wpAny_newObj_type (newEnv_comp ?_)
  have sz3 : s2.heap.objs.size < (s2.heap.push { cls := .type "dict", data := .dict #[] }).objs.size := by rw [Heap.size_push]; exact Nat.lt_succ_self _
  have f3 : ∀ b ∈ fp, FpOk X pins (upd H2 s2.heap.objs.size o) b ∧ b < (s2.heap.push { cls := .type "dict", data := .dict #[] }).objs.size := fun b hb => by
    have l := lt2 b hb
    refine ⟨⟨?_, (f2 b hb).2⟩, Nat.lt_trans l sz3⟩
    rw [upd_ne (Nat.ne_of_lt l)]; exact (f2 b hb).1
  have kp : ∀ b ∈ fp, ∀ o, s2.heap.get? b = some o → (pushCells ((s2.heap.push { cls := .type "dict", data := .dict #[] }).push { cls := .type "dict", data := .dict #[] }) scope.names).get? b = some o := fun b _ o e => pushCells_keeps _ _ _ _ (Heap.get?_push_of_some _ (Heap.get?_push_of_some _ e))
  have I4 := block_start I3 ok hN f3
  generalize hce : compEnvC scope (cellsFrom (({ s2 with heap := s2.heap.push { cls := .type "dict", data := .dict #[] } } : Shared).heap.objs.size + 1) scope.names (cloFrom X.env.cells scope.names [])) ({ s2 with heap := s2.heap.push { cls := .type "dict", data := .dict #[] } } : Shared).heap.objs.size X.env = ce at I4
  have cl : ce.locals = (s2.heap.push { cls := .type "dict", data := .dict #[] }).objs.size := by rw [← hce]; rfl
  show codeAny _ _ (.compStart (.DictComp kx vx [⟨tg, iter, ifs, 0⟩] scope pos) 0 (.ref it) (.ref s2.heap.objs.size) _) (compPost (model X.prog X.w) X.A X.xe use Z (.ref s2.heap.objs.size) _) _
  have loop := dcp_loop (iter := iter) (pos := pos) (R := compPost (model X.prog X.w) X.A X.xe use Z (.ref s2.heap.objs.size) (s2.heap.push { cls := .type "dict", data := .dict #[] }).objs.size) hc hu T (hce ▸ inn.g _ _ _ _ fp) (hce ▸ inn.t _ _ _ _ fp) (hce ▸ inn.k _ _ _ _ fp) (hce ▸ inn.v _ _ _ _ fp) turn
    (fun G u J' qd => ?_) I4 (T.keep _ _ _ t2 kp) (fun b hb => (f3 b hb).1.1) w0
  · subst hce
    exact codeAny_compStart_dict loop (T.self X.A 0 _ _ _ (T.keep _ _ _ t2 kp) loop)
  · have J2 : L2.Inv X pins σ G u := I3.call' (ch := fp) J'.os J'.base J'.hok J'.bare fun b hb => by
      obtain ⟨_, a2, _, a4, a5, a6⟩ := (f3 b hb).1
      exact ⟨a4, a2, a5, a6⟩
    have free : G (s2.heap.push { cls := .type "dict", data := .dict #[] }).objs.size = none := by
      have z : G ce.locals = none := J'.free
      rw [cl] at z; exact z
    obtain ⟨m, ns, _⟩ := J'.loc
    have ns : u.heap.Ns ce.locals m := ns
    rw [cl] at ns
    exact last _ _ u m G J2 qd ns (I3.fpOk (H' := G) (Nat.le_refl _) free)
theorem pe_dcP {kx vx tg iter : Expr} {ifs : List Expr} {scope : Scope} {own : List (Str × Nat)} {pos : Pos} {wi : TI} {g : TG} {tt : TT} {tk tv : TE} (hc : X.calm = true) (hu : X.A.units < cLine) (hN : X.N.Nodup) (hi : PI X tg iter wi) (ok : BlkOk X.N X.env.scope scope own)
    (inn : DcIn X kx vx tg ifs scope g tt tk tv) (hs : ∀ x, foldedSetIterable iter X.env x = pure x := by intro _; rfl) :
    PE X (.DictComp kx vx [⟨tg, iter, ifs, 0⟩] scope pos) (tDcP wi g tt tk tv (own.map (·.2))) := by
  refine ⟨fun pins s σ H Q I h => ?_⟩
  rw [arm_eval_DictComp]
  refine dcP_core hc hu hN I hi ok inn hs h fun D C u m G J q ns ⟨g0, g1, _, g3, g4, g5⟩ => ⟨m, ns, fun h' sb => ?_⟩
  exact ⟨.ref D, G, J.turned (t' := u.toks) (fun b o hb e => (sb.2 b hb).trans e) g0 g1 g3 g4 g5, rfl, q⟩
/-- name = {..} on one line, the name a local -/
theorem ps_setDcP {i : Nat} {y : Str} {py : Pos} {kx vx tg iter : Expr} {ifs : List Expr} {scope : Scope} {own : List (Str × Nat)} {pos spos : Pos} {wi : TI} {g : TG} {tt : TT} {tk tv : TE} (hc : X.calm = true) (hu : X.A.units < cLine) (hN : X.N.Nodup) (hy : X.N[i]? = some y) (hyl : X.env.scope.names.lookup y = some .local)
    (hsw : swapsWith (.DictComp kx vx [⟨tg, iter, ifs, 0⟩] scope pos) (some (.Name y py)) spos.line X.env = pure true) (hi : PI X tg iter wi) (ok : BlkOk X.N X.env.scope scope own)
    (inn : DcIn X kx vx tg ifs scope g tt tk tv) (hs : ∀ x, foldedSetIterable iter X.env x = pure x := by intro _; rfl) :
    PS X (.Assign [.Name y py] (.DictComp kx vx [⟨tg, iter, ifs, 0⟩] scope pos) spos) (tAsg (tDcP wi g tt tk tv (own.map (·.2))) (gName i)) := by
  refine ⟨fun pins s σ H D I h => ?_⟩
  rw [exec_Assign_Name_used _ _ _ _ hsw]
  refine wpAny_bind (wpAny_standAt (wpAny_bind ?_))
  show wpAny _ X.A (comprehension (.DictComp kx vx [⟨tg, iter, ifs, 0⟩] scope pos) scope X.env (firstIterPos [⟨tg, iter, ifs, 0⟩] pos) newDict false (eval iter X.env) (some (assign (.Name y py) X.env)) >>= fun _ => pure ()) _ _ s
  refine wpAny_bind (thn (Q := fun _ s' => SP X pins D .next s') ?_ fun _ s' hq => wpAny_pure (wpAny_pure hq))
  refine dcP_core (Q := fun x G => gName i x σ G D.nx) (use := some (assign (.Name y py) X.env)) hc hu hN I hi ok inn hs h fun L C u m G J q ns ⟨g0, g1, _, g3, g4, g5⟩ => ?_
  refine wpAny_assign_Name (store_ok2 (v := V.ref L) J hN hy (.inl hyl) rfl (fun s2 J2 ⟨a, sb, ha⟩ => ?_) (.inr hyl))
  have off : C ≠ a := ha.elim (fun z => z ▸ g1) fun z e => g4 y a z e.symm
  exact ⟨m, ns.sameBut sb off, fun h3 sb3 => ⟨_, G, J2.turned (t' := s2.toks) (fun b o hb e => (sb3.2 b hb).trans e) g0 g1 g3 g4 g5, q⟩⟩
theorem sw_dc {kx vx : Expr} {gs : List Comprehension} {scope : Scope} {pos py : Pos} {y : Str} {l : Nat} {env : Env} (hk : env.scope.kind = .function) (hy : env.scope.names.lookup y = some .local) (hl : (py.line == pos.line) = true)
    (ha : (scope.names.any fun (n, k) => n == y && (k == .local || k == .cell)) = false) : swapsWith (.DictComp kx vx gs scope pos) (some (.Name y py)) l env = pure true := by
  have k1 : env.kindOf y = some .local := hy
  have k2 : env.blockKind = .function := by rw [Env.blockKind, hk]; rfl
  simp only [swapsWith, k1, k2, ha, Expr.pos, hl]
  rfl
end
end Sg

set_option Elab.async false
set_option linter.all false
set_option maxRecDepth 100000
set_option maxHeartbeats 4000000
namespace Sg
open PySem PySem.Spec PyProof.Rows L2
/-! ### topics, as data -/
def keyD : Key → PyData
  | .inl i => .int i
  | .inr s => .str s
def topD (k : List Key) : PyData := .tuple (k.map keyD)
theorem keyD_eqv {a b : Key} : PyData.eqv (keyD a) (keyD b) = decide (a = b) := by
  cases a with
  | inl i =>
    cases b with
    | inl j =>
      show PyData.eqv (.int i) (.int j) = _
      simp only [PyData.eqv]
      by_cases h : i = j <;> simp [h]
    | inr t => show PyData.eqv (.int i) (.str t) = _; simp [PyData.eqv]
  | inr s =>
    cases b with
    | inl j => show PyData.eqv (.str s) (.int j) = _; simp [PyData.eqv]
    | inr t =>
      show PyData.eqv (.str s) (.str t) = _
      simp only [PyData.eqv]
      by_cases h : s = t <;> simp [h]
theorem keyD_all : ∀ {a b : List Key}, PyData.eqvAll (a.map keyD) (b.map keyD) = decide (a = b)
  | [], [] => by simp [PyData.eqvAll]
  | [], _ :: _ => by simp [PyData.eqvAll]
  | _ :: _, [] => by simp [PyData.eqvAll]
  | x :: a, y :: b => by
    simp only [List.map_cons, PyData.eqvAll, keyD_eqv, keyD_all (a := a) (b := b), List.cons.injEq, Bool.decide_and]
theorem topD_eqv {a b : List Key} : PyData.eqv (topD a) (topD b) = decide (a = b) := by
  unfold topD
  simp only [PyData.eqv, keyD_all]
def KOk (k : List Key) : Prop := ∀ x ∈ k, ∀ s, x = .inr s → PyData.strOk s = true
theorem keys_lay : ∀ {k : List Key}, KOk k → tupOs (k.map keyD) = true ∧ PyData.canLayAll0 (k.map keyD) = true ∧ PyData.depthAll (k.map keyD) = 0
  | [], _ => ⟨rfl, by simp [PyData.canLayAll0], by simp [PyData.depthAll]⟩
  | x :: k, h => by
    obtain ⟨i1, i2, i3⟩ := keys_lay (k := k) fun y hy => h y (List.mem_cons_of_mem _ hy)
    have hx := h x List.mem_cons_self
    cases x with
    | inl i => exact ⟨by simp [keyD, tupOs, tupO, i1], by simp [keyD, PyData.canLayAll0, PyData.canLay0, i2], by simp [keyD, PyData.depthAll, PyData.depth, i3]⟩
    | inr s => exact ⟨by simp [keyD, tupOs, tupO, i1], by simp [keyD, PyData.canLayAll0, PyData.canLay0, i2, hx s rfl], by simp [keyD, PyData.depthAll, PyData.depth, i3]⟩
theorem topD_g {k : List Key} (h : KOk k) : GD 1 (topD k) := by
  obtain ⟨i1, i2, i3⟩ := keys_lay h
  exact ⟨by simp [topD, tupO, i1], by simp [topD, PyData.canLay0, i2], by simp [topD, PyData.depth, i3]⟩
def TopAt (K : PySem.W.Frag) (H : Hp) (t : Addr) (k : List Key) : Prop := SqT K H t (k.map kV)
theorem keys_dp {K : PySem.W.Frag} {H : Hp} : ∀ {k : List Key}, DpAll K H (k.map kV) (k.map keyD)
  | [] => .nil
  | .inl i :: _ => .cons (.int i) keys_dp
  | .inr s :: _ => .cons (.str s) keys_dp
theorem TopAt.dp {K : PySem.W.Frag} {H : Hp} {t : Addr} {k : List Key} (h : TopAt K H t k) : Dp K H (.ref t) (topD k) := .tup h keys_dp
end Sg

set_option Elab.async false
set_option linter.all false
set_option maxRecDepth 100000
set_option maxHeartbeats 4000000
namespace Sg
open PySem PySem.Spec PyProof.Rows L2
/-! ### a table without one of its names: {x: d[x] for x in d if x != y} -/
theorem dcp_it {J : It} {n : Nat} {G : Hp → Prop} {Y : Nat → Hp → V → Hp → Prop} (w : Walk J n G Y) {g : TG} {tt : TT} {tk tv : TE} {vs : List Nat} {σ : L2.St} {H1 : Hp} {D : Addr} {Qd : Hp → Prop} (Pv : Nat → Hp → Prop) {o : HO} (h0 : Pv 0 (upd H1 D o)) (hG : ∀ i H, i ≤ n → Pv i H → G H)
    (hs : ∀ i x H H', i < n → Pv i H → Y i H x H' → g x (wipe σ vs) H' fun σ2 H2 => wipe σ2 vs = wipe σ vs ∧ tt σ2 H2 fun b H3 =>
      if b = true then tk σ2 H3 fun y H4 => tv σ2 H4 fun z H5 => ∃ H6, DPut H5 D y z H6 ∧ Pv (i + 1) H6 else Pv (i + 1) H3) (hd : ∀ H, Pv n H → Qd H) :
    ∃ W : Nat → Nat → Hp → Prop, (∃ m, W 0 m (upd H1 D o)) ∧ DcTurn J g tt tk tv σ vs D W Qd := by
  refine ⟨fun i m H => m + i = n ∧ Pv i H, ⟨n, rfl, h0⟩, fun i m H ⟨e, p⟩ => ?_⟩
  cases m with
  | zero =>
    have e' : i = n := by omega
    subst e'
    exact .inl ⟨w.stops H (hG _ H (Nat.le_refl _) p), hd H p⟩
  | succ m =>
    have lt : i < n := by omega
    have q := hG i H (Nat.le_of_lt lt) p
    exact .inr ⟨w.goes i H lt q, Pv (i + 1), fun H' p' => ⟨m, Nat.lt_succ_self m, by omega, p'⟩, fun x H' y => hs i x H H' lt p (w.yields i H x H' lt q y)⟩
/-- the two kinds of tables in one -/
structure TKd (K : PySem.W.Frag) (κ : Type) [DecidableEq κ] where
  ho : List (κ × V) → HO
  at' : Hp → V → κ → Prop
  dat : κ → PyData
  ok : κ → Prop
  em : EmD (ho [])
  mt : ∀ l, Mut (some (ho l))
  nt : ∀ l, (∀ xs, ho l ≠ .tup xs) ∧ ∀ o u, ho l ≠ .frz o u
  get : ∀ {H : Hp} {d : Addr} {l : List (κ × V)} {y : V} {k : κ}, Rd H d (ho l) → at' H y k → DGet H d y (valV l k)
  put : ∀ {H : Hp} {d : Addr} {l : List (κ × V)} {y v : V} {k : κ}, H d = some (ho l) → at' H y k → l.length < sizeLine → DPut H d y v (upd H d (ho (putK l k v)))
  tk : ∀ {H H' : Hp} {y : V} {k : κ}, TK H H' → at' H y k → at' H' y k
  dp : ∀ {H : Hp} {y : V} {k : κ}, at' H y k → Dp K H y (dat k)
  sh : ∀ {k : κ}, ok k → SeqAt.shaped (dat k) = true
  eqv : ∀ {a b : κ}, PyData.eqv (dat a) (dat b) = decide (a = b)
  walk : ∀ {d : Addr} {o : Obj} {l : List (κ × V)} {H : Hp} {R : It → Hp → Prop}, H d = some (.frz o (ho l)) →
    (∀ J, Walk J l.length (fun H => H d = some (.frz o (ho l))) (fun i H x H' => H' = H ∧ ∃ k v, l[i]? = some (k, v) ∧ at' H x k) → R J H) →
    (∃ kvs, H d = some (.frz o (.dK kvs)) ∧ R (Itk d o kvs) H) ∨ ∃ kvs, H d = some (.frz o (.dT kvs)) ∧ R (Itkt d o kvs) H
def kdK (K : PySem.W.Frag) : TKd K Key where
  ho := .dK
  at' := fun _ y k => y = kV k
  dat := keyD
  ok := fun k => KOk [k]
  em := .inl rfl
  mt := fun _ => True.intro
  nt := fun l => ⟨fun _ h => (nomatch h), fun _ _ h => (nomatch h)⟩
  get := fun h e => by subst e; exact .inl ⟨_, _, h, rfl, rfl⟩
  put := fun h e hl => by subst e; exact DPut.k h hl
  tk := fun _ h => h
  dp := fun {H y k} e => by
    subst e
    cases k with
    | inl i => exact .int i
    | inr s => exact .str s
  sh := fun {k} h => by
    obtain ⟨h1, h2, h3⟩ := keys_lay h
    refine shaped_of ?_ ?_
    · simp only [List.map_cons, List.map_nil, PyData.canLayAll0, Bool.and_true] at h2; exact h2
    · simp only [List.map_cons, List.map_nil, PyData.depthAll] at h3; omega
  eqv := keyD_eqv
  walk := fun {d o l H R} h q => .inl ⟨l, h, q _ ⟨walk_keys.goes, walk_keys.stops, fun i H x H' a b c => by
    obtain ⟨e, k, v, h1, h2⟩ := walk_keys.yields i H x H' a b c
    exact ⟨e, k, v, h1, h2⟩⟩⟩
def kdT (K : PySem.W.Frag) : TKd K (List Key) where
  ho := .dT
  at' := fun H y k => ∃ b, y = .ref b ∧ H b = some (.tup (k.map kV))
  dat := topD
  ok := KOk
  em := .inr rfl
  mt := fun _ => True.intro
  nt := fun l => ⟨fun _ h => (nomatch h), fun _ _ h => (nomatch h)⟩
  get := fun {H d l y k} h e => by obtain ⟨b, rfl, hb⟩ := e; exact .inr ⟨l, k, b, h, rfl, hb, rfl⟩
  put := fun h e hl => by obtain ⟨b, rfl, hb⟩ := e; exact DPut.t h hb hl
  tk := fun s e => by obtain ⟨b, rfl, hb⟩ := e; exact ⟨b, rfl, s.t _ _ hb⟩
  dp := fun e => by obtain ⟨b, rfl, hb⟩ := e; exact TopAt.dp (SqT.of hb)
  sh := fun h => (topD_g h).sh (by decide)
  eqv := topD_eqv
  walk := fun {d o l H R} h q => .inr ⟨l, h, q _ ⟨walk_keysT.goes, walk_keysT.stops, fun i H x H' a b c => by
    obtain ⟨e, k, v, b, h1, h2, h3⟩ := walk_keysT.yields i H x H' a b c
    exact ⟨e, k, v, h1, b, h2, h3⟩⟩⟩
theorem tk_upd {H : Hp} {d : Addr} {o u : HO} (h : H d = some o) (n1 : ∀ xs, o ≠ .tup xs) (n2 : ∀ a b, o ≠ .frz a b) : TK H (upd H d u) := by
  refine ⟨fun a xs e => ?_, fun a b xs e => ?_⟩
  · rw [upd_ne (fun z => by rw [z, h] at e; exact n1 _ (Option.some.inj e))]; exact e
  · rw [upd_ne (fun z => by rw [z, h] at e; exact n2 _ _ (Option.some.inj e))]; exact e
section
variable {κ : Type} [DecidableEq κ]
theorem dropK_take {l : List (κ × V)} {k0 k : κ} {v : V} {i : Nat} (h : l[i]? = some (k, v)) : dropK (l.take (i + 1)) k0 = dropK (l.take i) k0 ++ (if k = k0 then [] else [(k, v)]) := by
  unfold dropK
  rw [List.take_add_one, h, List.filter_append]
  by_cases c : k = k0 <;> simp [c]
theorem valV_none {l : List (κ × V)} {k : κ} (h : ∀ p ∈ l, p.1 ≠ k) : valV l k = none := by
  cases e : valV l k with
  | none => rfl
  | some v => 
    have := valV_any (kvs := l) (k := k)
    rw [e] at this
    obtain ⟨p, hp, hk⟩ := List.any_eq_true.mp this
    exact absurd (of_decide_eq_true hk) (h p hp)
theorem valV_get {l : List (κ × V)} {k : κ} {v : V} {i : Nat} (nd : (l.map (·.1)).Nodup) (h : l[i]? = some (k, v)) : valV l k = some v := by
  induction l generalizing i with
  | nil => simp at h
  | cons p r ih =>
    rw [List.map_cons, List.nodup_cons] at nd
    cases i with
    | zero =>
      obtain rfl : p = (k, v) := by simpa using h
      exact valV_pos rfl
    | succ i =>
      have h' : r[i]? = some (k, v) := by simpa using h
      rw [valV_neg (fun e => nd.1 (List.mem_map.mpr ⟨_, List.mem_of_getElem? h', e.symm⟩))]
      exact ih nd.2 h'
theorem new_take {l : List (κ × V)} {k0 k : κ} {v : V} {i : Nat} (nd : (l.map (·.1)).Nodup) (h : l[i]? = some (k, v)) : valV (dropK (l.take i) k0) k = none := by
  refine valV_none fun p hp e => ?_
  have hp' : p ∈ l.take i := (List.mem_filter.mp hp).1
  obtain ⟨j, hj⟩ := List.mem_iff_getElem?.mp hp'
  have hji : j < i := by
    have := (List.getElem?_eq_some_iff.mp hj).1
    rw [List.length_take] at this; omega
  rw [List.getElem?_take_of_lt hji] at hj
  have h1 : (l.map (·.1))[j]? = some k := by rw [List.getElem?_map, hj, ← e]; rfl
  have h2 : (l.map (·.1))[i]? = some k := by rw [List.getElem?_map, h]; rfl
  have lj := (List.getElem?_eq_some_iff.mp h1).1
  have li := (List.getElem?_eq_some_iff.mp h2).1
  have e1 := (List.getElem?_eq_some_iff.mp h1).2
  have e2 := (List.getElem?_eq_some_iff.mp h2).2
  exact (List.pairwise_iff_getElem.mp nd) j i lj li hji (e1.trans e2.symm)
end
end Sg

set_option Elab.async false
set_option linter.all false
set_option maxRecDepth 100000
set_option maxHeartbeats 4000000
namespace Sg
open PySem PySem.Spec PyProof.Rows L2
section
variable {K : PySem.W.Frag} {κ : Type} [DecidableEq κ]
theorem dropK_len {l : List (κ × V)} {k : κ} : (dropK l k).length ≤ l.length := List.length_filter_le _ _
/-- the comprehension alone, the table locked -/
theorem keep_dc (T : TKd K κ) {σ : L2.St} {H1 : Hp} {Q : VK} {jt jn jx : Nat} {d : Addr} {od : Obj} {kvs : List (κ × V)} {k0 : κ} {y0 : V} (hjx : jx < σ.length) (htx : jt ≠ jx) (hnx : jn ≠ jx) (ht : σ[jt]? = some (some (.ref d))) (hn : σ[jn]? = some (some y0))
    (hd1 : H1 d = some (.frz od (T.ho kvs))) (hk : T.at' H1 y0 k0) (ok0 : T.ok k0) (ok : ∀ p ∈ kvs, T.ok p.1) (nd : (kvs.map (·.1)).Nodup) (hl : kvs.length ≤ 1000)
    (q : ∀ D H', Same H1 H' → H1 D = none → H' D = some (T.ho (dropK kvs k0)) → Q (.ref D) H') :
    tDcP (iKeys (tVar jt)) (gName jx) (tTest (tOp (rNeD K) (tVar jx) (tVar jn))) (tVar jx) (tDGet (tVar jt) (tVar jx)) [jx] σ H1 Q := by
  refine ⟨_, ht, d, od, rfl, T.walk (R := fun J G => ∀ D, G D = none → ∃ o, EmD o ∧ ∃ W : Nat → Nat → Hp → Prop, (∃ m, W 0 m (upd G D o)) ∧ DcTurn J (gName jx) (tTest (tOp (rNeD K) (tVar jx) (tVar jn))) (tVar jx) (tDGet (tVar jt) (tVar jx)) σ [jx] D W fun G' => Q (.ref D) G') hd1 fun J w D hD => ⟨T.ho [], T.em, ?_⟩⟩
  refine dcp_it w (fun i H' => Same H1 H' ∧ H' D = some (T.ho (dropK (kvs.take i) k0))) ⟨same_new hD, upd_same⟩ (fun i H' _ p => p.1 _ _ hd1) ?_ ?_
  · rintro i x H' H'' hi ⟨sm, hDi⟩ ⟨rfl, k, v, hki, hat⟩
    have g1 : ((wipe σ [jx]).set jx (some x))[jx]? = some (some x) := by
      rw [List.getElem?_set_self (by rw [wipe_length]; exact hjx)]
    have gt : ((wipe σ [jx]).set jx (some x))[jt]? = some (some (.ref d)) := by
      rw [List.getElem?_set_ne (Ne.symm htx)]
      show (σ.set jx none)[jt]? = _
      rw [List.getElem?_set_ne (Ne.symm htx)]; exact ht
    have gn : ((wipe σ [jx]).set jx (some x))[jn]? = some (some y0) := by
      rw [List.getElem?_set_ne (Ne.symm hnx)]
      show (σ.set jx none)[jn]? = _
      rw [List.getElem?_set_ne (Ne.symm hnx)]; exact hn
    have hat0 : T.at' H'' y0 k0 := T.tk (TK.of sm) hk
    refine ⟨?_, ?_⟩
    · show ((σ.set jx none).set jx (some x)).set jx none = σ.set jx none
      rw [List.set_set, List.set_set]
    · refine ⟨_, g1, _, gn, _, _, T.dp hat, T.dp hat0, T.sh (ok _ (List.mem_of_getElem? hki)), T.sh ok0, _, rfl, ?_⟩
      rw [T.eqv]
      dsimp only
      have lt : (kvs.take i).length ≤ 1000 := by rw [List.length_take]; omega
      by_cases c : k = k0
      · rw [if_neg (by simp [c])]
        refine ⟨sm, ?_⟩
        rw [dropK_take hki, if_pos c, List.append_nil]; exact hDi
      · rw [if_pos (by simp [c])]
        refine ⟨_, g1, _, gt, _, g1, d, v, rfl, ?_, _, T.put (l := dropK (kvs.take i) k0) hDi hat (small1000 (Nat.le_trans dropK_len lt)), ?_, ?_⟩
        · have := T.get (.inr ⟨od, sm _ _ hd1⟩) hat
          rw [valV_get nd hki] at this; exact this
        · intro b o e
          have : b ≠ D := fun z => by rw [z, hD] at e; cases e
          rw [upd_ne this]; exact sm _ _ e
        · rw [dropK_take hki, if_neg c, putK_new v (new_take nd hki)]; exact upd_same
  · rintro H' ⟨sm, hDn⟩
    exact q D _ sm hD (by rw [hDn, List.take_length])
theorem lock_same {H H1 H' : Hp} {d : Addr} {o u : HO} (hd : H d = some o) (e1 : H1 = upd H d u) (sm : Same H1 H') : Same H (upd H' d o) := fun b x e => by
  by_cases c : b = d
  · rw [c, hd] at e; cases e
    rw [c]; exact upd_same
  · rw [upd_ne c]; exact sm _ _ (by rw [e1, upd_ne c]; exact e)
theorem lock_free {H : Hp} {d D : Addr} {u : HO} (h : (upd H d u) D = none) : D ≠ d ∧ H D = none := by
  by_cases c : D = d
  · rw [c, upd_same] at h; cases h
  · rw [upd_ne c] at h; exact ⟨c, h⟩
theorem keep_te (T : TKd K κ) {σ : L2.St} {H : Hp} {Q : VK} {jt jn jx : Nat} {d : Addr} {kvs : List (κ × V)} {k0 : κ} {y0 : V} (hjx : jx < σ.length) (htx : jt ≠ jx) (hnx : jn ≠ jx) (ht : σ[jt]? = some (some (.ref d))) (hn : σ[jn]? = some (some y0))
    (hd : H d = some (T.ho kvs)) (hk : T.at' H y0 k0) (ok0 : T.ok k0) (ok : ∀ p ∈ kvs, T.ok p.1) (nd : (kvs.map (·.1)).Nodup) (hl : kvs.length ≤ 1000)
    (q : ∀ D H', Same H H' → H D = none → H' D = some (T.ho (dropK kvs k0)) → Q (.ref D) H') :
    tLockE (tDcP (iKeys (tVar jt)) (gName jx) (tTest (tOp (rNeD K) (tVar jx) (tVar jn))) (tVar jx) (tDGet (tVar jt) (tVar jx)) [jx]) σ H Q := by
  refine ⟨d, T.ho kvs, hd, T.mt _, fun od => keep_dc T hjx htx hnx ht hn upd_same (T.tk (tk_upd hd (T.nt kvs).1 (T.nt kvs).2) hk) ok0 ok nd hl fun D H' sm hD hDn => ?_⟩
  obtain ⟨n, f⟩ := lock_free hD
  exact ⟨sm _ _ upd_same, q D _ (lock_same hd rfl sm) f (by rw [upd_ne n]; exact hDn)⟩
theorem keep_ts (T : TKd K κ) {σ : L2.St} {H : Hp} {D0 : Ends} {i jt jn jx : Nat} {d : Addr} {kvs : List (κ × V)} {k0 : κ} {y0 : V} (hjx : jx < σ.length) (htx : jt ≠ jx) (hnx : jn ≠ jx) (ht : σ[jt]? = some (some (.ref d))) (hn : σ[jn]? = some (some y0))
    (hd : H d = some (T.ho kvs)) (hk : T.at' H y0 k0) (ok0 : T.ok k0) (ok : ∀ p ∈ kvs, T.ok p.1) (nd : (kvs.map (·.1)).Nodup) (hl : kvs.length ≤ 1000)
    (q : ∀ D H', Same H H' → H D = none → H' D = some (T.ho (dropK kvs k0)) → D0.nx (σ.set i (some (.ref D))) H') :
    tLock (tAsg (tDcP (iKeys (tVar jt)) (gName jx) (tTest (tOp (rNeD K) (tVar jx) (tVar jn))) (tVar jx) (tDGet (tVar jt) (tVar jx)) [jx]) (gName i)) D0 σ H := by
  refine ⟨d, T.ho kvs, hd, T.mt _, fun od => keep_dc T hjx htx hnx ht hn upd_same (T.tk (tk_upd hd (T.nt kvs).1 (T.nt kvs).2) hk) ok0 ok nd hl fun D H' sm hD hDn => ?_⟩
  obtain ⟨n, f⟩ := lock_free hD
  exact ⟨sm _ _ upd_same, q D _ (lock_same hd rfl sm) f (by rw [upd_ne n]; exact hDn)⟩
end
end Sg

set_option Elab.async false
set_option linter.all false
set_option maxRecDepth 100000
set_option maxHeartbeats 4000000
namespace Sg
open PySem PySem.Spec PyProof.Rows L2
theorem chooseF' {b : Bool} {A B : Prop} (h : b = false) (x : B) : (if b = true then A else B) := by rw [h]; exact x
theorem chooseT' {b : Bool} {A B : Prop} (h : b = true) (x : A) : (if b = true then A else B) := by rw [if_pos h]; exact x
section
variable {K : PySem.W.Frag} {κ : Type} [DecidableEq κ]
theorem newF_take {l : List (κ × V)} {f : κ → Bool} {k : κ} {v : V} {i : Nat} (nd : (l.map (·.1)).Nodup) (h : l[i]? = some (k, v)) : valV ((l.take i).filter fun p => f p.1) k = none := by
  refine valV_none fun p hp e => ?_
  obtain ⟨j, hj⟩ := List.mem_iff_getElem?.mp (List.mem_filter.mp hp).1
  have hji : j < i := by
    have := (List.getElem?_eq_some_iff.mp hj).1
    rw [List.length_take] at this; omega
  rw [List.getElem?_take_of_lt hji] at hj
  have h1 : (l.map (·.1))[j]? = some k := by rw [List.getElem?_map, hj, ← e]; rfl
  have h2 : (l.map (·.1))[i]? = some k := by rw [List.getElem?_map, h]; rfl
  have lj := (List.getElem?_eq_some_iff.mp h1).1
  have li := (List.getElem?_eq_some_iff.mp h2).1
  exact (List.pairwise_iff_getElem.mp nd) j i lj li hji ((List.getElem?_eq_some_iff.mp h1).2.trans (List.getElem?_eq_some_iff.mp h2).2.symm)
/-- those of a table whose name a test takes -/
theorem keepF_dc (T : TKd K κ) {σ : L2.St} {H1 : Hp} {Q : VK} {jt jx : Nat} {d : Addr} {od : Obj} {kvs : List (κ × V)} {tt : TT} (f : κ → Bool) (hjx : jx < σ.length) (htx : jt ≠ jx) (ht : σ[jt]? = some (some (.ref d)))
    (hd1 : H1 d = some (.frz od (T.ho kvs))) (nd : (kvs.map (·.1)).Nodup) (hl : kvs.length ≤ 1000)
    (he : ∀ x k H' (Q' : Bool → Hp → Prop), k ∈ kvs.map (·.1) → T.at' H' x k → Same H1 H' → Q' (f k) H' → tt ((σ.set jx none).set jx (some x)) H' Q')
    (q : ∀ D H', Same H1 H' → H1 D = none → H' D = some (T.ho (kvs.filter fun p => f p.1)) → Q (.ref D) H') :
    tDcP (iKeys (tVar jt)) (gName jx) tt (tVar jx) (tDGet (tVar jt) (tVar jx)) [jx] σ H1 Q := by
  refine ⟨_, ht, d, od, rfl, T.walk (R := fun J G => ∀ D, G D = none → ∃ o, EmD o ∧ ∃ W : Nat → Nat → Hp → Prop, (∃ m, W 0 m (upd G D o)) ∧ DcTurn J (gName jx) tt (tVar jx) (tDGet (tVar jt) (tVar jx)) σ [jx] D W fun G' => Q (.ref D) G') hd1 fun J w D hD => ⟨T.ho [], T.em, ?_⟩⟩
  refine dcp_it w (fun i H' => Same H1 H' ∧ H' D = some (T.ho ((kvs.take i).filter fun p => f p.1))) ⟨same_new hD, upd_same⟩ (fun i H' _ p => p.1 _ _ hd1) ?_ ?_
  · rintro i x H' H'' hi ⟨sm, hDi⟩ ⟨rfl, k, v, hki, hat⟩
    have g1 : ((wipe σ [jx]).set jx (some x))[jx]? = some (some x) := by
      rw [List.getElem?_set_self (by rw [wipe_length]; exact hjx)]
    have gt : ((wipe σ [jx]).set jx (some x))[jt]? = some (some (.ref d)) := by
      rw [List.getElem?_set_ne (Ne.symm htx)]
      show (σ.set jx none)[jt]? = _
      rw [List.getElem?_set_ne (Ne.symm htx)]; exact ht
    refine ⟨?_, ?_⟩
    · show ((σ.set jx none).set jx (some x)).set jx none = σ.set jx none
      rw [List.set_set, List.set_set]
    · refine he x k H'' _ (List.mem_map.mpr ⟨_, List.mem_of_getElem? hki, rfl⟩) hat sm ?_
      have tks : (kvs.take (i + 1)).filter (fun p => f p.1) = (kvs.take i).filter (fun p => f p.1) ++ (if f k = true then [(k, v)] else []) := by
        rw [List.take_add_one, hki, List.filter_append]
        by_cases c : f k = true <;> simp [c]
      have lt : (kvs.take i).length ≤ 1000 := by rw [List.length_take]; omega
      by_cases c : f k = true
      · refine chooseT' c ?_
        refine ⟨_, g1, _, gt, _, g1, d, v, rfl, ?_, _, T.put (l := (kvs.take i).filter fun p => f p.1) hDi hat (small1000 (Nat.le_trans (List.length_filter_le _ _) lt)), ?_, ?_⟩
        · have := T.get (.inr ⟨od, sm _ _ hd1⟩) hat
          rw [valV_get nd hki] at this; exact this
        · intro b o e
          have : b ≠ D := fun z => by rw [z, hD] at e; cases e
          rw [upd_ne this]; exact sm _ _ e
        · rw [tks, if_pos c, putK_new v (newF_take nd hki)]; exact upd_same
      · refine chooseF' (by simpa using c) ⟨sm, ?_⟩
        rw [tks, if_neg c, List.append_nil]; exact hDi
  · rintro H' ⟨sm, hDn⟩
    exact q D _ sm hD (by rw [hDn, List.take_length])
end
end Sg

set_option Elab.async false
set_option linter.all false
set_option maxRecDepth 100000
set_option maxHeartbeats 4000000
namespace Sg
open PySem PySem.Spec PyProof.Rows L2
/-! ### dict(l) of a list of pairs, the keys of either kind -/
section
variable {κ : Type} [DecidableEq κ]
def mergeG (kvs more : List (κ × V)) : List (κ × V) := more.foldl (fun acc kv => putK acc kv.1 kv.2) kvs
theorem merge_new : ∀ (more acc : List (κ × V)), ((acc ++ more).map (·.1)).Nodup → mergeG acc more = acc ++ more
  | [], acc, _ => (List.append_nil acc).symm
  | p :: r, acc, nd => by
    have hn : valV acc p.1 = none := valV_none fun q hq e => by
      rw [List.map_append, List.nodup_append] at nd
      exact nd.2.2 q.1 (List.mem_map.mpr ⟨q, hq, rfl⟩) p.1 (by simp) e
    show mergeG (putK acc p.1 p.2) r = _
    rw [putK_new p.2 hn, merge_new r _ (by rw [List.append_assoc]; exact nd), List.append_assoc]
    rfl
theorem merge_nodup {l : List (κ × V)} (nd : (l.map (·.1)).Nodup) : mergeG [] l = l := merge_new l [] nd
end
theorem KT.mergeG {H : Hp} : ∀ {more : List (List Key × V)} {ps : List (List Key × Addr × Value)} {kvs : List (List Key × V)} {xs : List (List Key × Addr × Value)}, KT H more ps → KT H kvs xs → KT H (Sg.mergeG kvs more) (storedAllH xs ps) := by
  intro more ps kvs xs r
  unfold KT at r
  induction r generalizing kvs xs with
  | nil => exact fun h => h
  | @cons a b as bs h t ih =>
    intro r0
    have e : KT H (putK kvs a.1 a.2) (storedH xs b.1 b.2.1 b.2.2) := by
      have := r0.put a.1 h.2.1 h.2.2
      rw [← h.1]; exact this
    exact ih e
section
variable {X : Cx}
theorem pairs_ofT {pins : List (Addr × Obj)} {σ : L2.St} {H : Hp} {s : Shared} (I : L2.Inv X pins σ H s) : ∀ {ps : List Addr} {kvs : List (List Key × V)}, Paired (fun p kv => ∃ b, SqT X.K H p [.ref b, kv.2] ∧ H b = some (.tup (kv.1.map kV))) ps kvs →
    ∃ (prs : List (List Key × Addr × Value)) (us : List (Value × Value)), KT H kvs prs ∧ prs.length = ps.length ∧ us.length = ps.length ∧ ∀ (j : Nat) (k v : Value), us[j]? = some (k, v) → (∃ b : Addr, ps[j]? = some b ∧ IsTup s.heap b #[k, v]) ∧ ∃ key b, prs[j]? = some (key, b, v) ∧ k = .ref b
  | _, _, .nil => ⟨[], [], .nil, rfl, rfl, fun j k v e => by simp at e⟩
  | _, _, .cons (a := p) (b := kv) h t => by
    obtain ⟨prs, us, r, hl, hl2, hp⟩ := pairs_ofT I t
    obtain ⟨b, h, hb⟩ := h
    obtain ⟨its, rv, ht, _⟩ := I.tuple h
    obtain ⟨u, y, ei, ru, ry⟩ := vals2 rv
    subst ei
    obtain rfl : u = Value.ref b := ru
    refine ⟨(kv.1, b, y) :: prs, (.ref b, y) :: us, .cons ⟨rfl, hb, ry⟩ r, by rw [List.length_cons, List.length_cons, hl], by rw [List.length_cons, List.length_cons, hl2], fun j k v e => ?_⟩
    cases j with
    | zero =>
      have e' : (Value.ref b, y) = (k, v) := Option.some.inj e
      cases e'
      exact ⟨⟨p, rfl, ht⟩, kv.1, b, rfl, rfl⟩
    | succ j =>
      obtain ⟨⟨b', e1, e2⟩, key, b2, e3, e4⟩ := hp j k v (by simpa using e)
      exact ⟨⟨b', by simpa using e1, e2⟩, key, b2, by simpa using e3, e4⟩
def rDictL (K : PySem.W.Frag) : List V → Hp → VK → Prop := fun xs H Q => ∃ (a : Addr) (ps : List Addr), xs = [.ref a] ∧ SqL K H a (ps.map V.ref) ∧
  ((∃ kvs : List (Key × V), Paired (fun p kv => SqT K H p [kV kv.1, kv.2]) ps kvs ∧ (kvs.map (·.1)).Nodup ∧ ∀ p, H p = none → Q (.ref p) (upd H p (.dK kvs))) ∨
   ∃ kvs : List (List Key × V), Paired (fun p kv => ∃ b, SqT K H p [.ref b, kv.2] ∧ H b = some (.tup (kv.1.map kV))) ps kvs ∧ (kvs.map (·.1)).Nodup ∧ ∀ p, H p = none → Q (.ref p) (upd H p (.dT kvs)))
theorem call_dictL (hcalm : X.calm = true) (hu : X.A.units + 2 < cLine) : CallR X (.type "dict") (rDictL X.K) := by
  intro pins s σ H xs us Q I r q
  obtain ⟨a, ps, ex, hq, q⟩ := q
  subst ex
  obtain ⟨u, eu, rx⟩ := vals1 r
  subst eu
  cases rx
  obtain ⟨its, rv, pl, hz⟩ := I.list hq
  have ei := refs_at rv
  subst ei
  rw [List.length_map] at hz
  have hh := I.ok.hd hcalm
  have hm : (s.heap.objs.size == sysModules) = false := beq_eq_false_iff_ne.mpr (Nat.ne_of_gt I.big)
  rcases q with ⟨kvs, hp, nd, q⟩ | ⟨kvs, hp, nd, q⟩
  · obtain ⟨prs, us2, rel, hl, hl2, hpr⟩ := pairs_of2 I hp
    refine PySem.call_dict_pairs (knd := mixKind X.prog X.w) (kvs := prs) (PairArg.list a (ps.map Value.ref).toArray (fun j => ps.getD j 0) us2) hh ⟨pl, ?_, fun j k v e => ?_⟩ ⟨?_, fun j k v e => ?_⟩ ?_ fun h' tk hd' k => ?_
    · simp [hl2]
    · obtain ⟨⟨b, e1, e2⟩, _⟩ := hpr j k v e
      have e3 : ps.getD j 0 = b := by rw [List.getD_eq_getElem?_getD, e1]; rfl
      show _ = some (Value.ref (ps.getD j 0)) ∧ PairAt s.heap (ps.getD j 0) k v
      rw [e3]
      exact ⟨by simp [e1], .inl e2⟩
    · rw [hl, hl2]
    · obtain ⟨_, key, e3, e4⟩ := hpr j k v e
      exact ⟨key, e3, e4⟩
    · rw [hl2]; exact hz
    · have hlen : kvs.length ≤ sizeLine := by rw [rel.length, hl]; exact hz
      have rm : KV (mergeK [] kvs) (merged [] prs) := KV.merge rel .nil
      have em : mergeK [] kvs = kvs := merge_nodup nd
      rw [em] at rm
      exact ⟨.ref s.heap.objs.size, upd H s.heap.objs.size (.dK kvs), I.laid (t' := tk) (fun b o e => k b o (by simp) e) (Nat.le_refl _) (show ObjOk X.prog X.w _ _ _ (.dK kvs) from ⟨hlen, hm, merged [] prs, rm, hd'⟩), rfl, q _ (I.hok.fresh (Nat.le_refl _))⟩
  · obtain ⟨prs, us2, rel, hl, hl2, hpr⟩ := pairs_ofT I hp
    have key : ∀ x ∈ prs, ∃ ks, H x.2.1 = some (.tup (ks.map kV)) ∧ x.1 = ks := fun x hx => by
      obtain ⟨j, hj⟩ := List.mem_iff_getElem?.mp hx
      have jl := (List.getElem?_eq_some_iff.mp hj).1
      have kl := Paired.length rel
      obtain ⟨y, hy, q1, q2, q3⟩ := paired_get rel (show kvs[j]? = some (kvs[j]'(by omega)) from List.getElem?_eq_getElem (by omega))
      rw [hj] at hy; cases hy
      exact ⟨_, q2, q1.symm⟩
    refine PySem.call_dict_pairsH (knd := tupleKind (mixKind X.prog X.w)) (ps := prs) (PairArg.list a (ps.map Value.ref).toArray (fun j => ps.getD j 0) us2) hh (tupleKind_room_in1 (A := X.A.in1) hu) ⟨pl, ?_, fun j k v e => ?_⟩ ⟨?_, fun j k v e => ?_⟩ (fun h' hk x hx => ?_) ?_ fun h' tk hd' k => ?_
    · simp [hl2]
    · obtain ⟨⟨b, e1, e2⟩, _⟩ := hpr j k v e
      have e3 : ps.getD j 0 = b := by rw [List.getD_eq_getElem?_getD, e1]; rfl
      show _ = some (Value.ref (ps.getD j 0)) ∧ PairAt s.heap (ps.getD j 0) k v
      rw [e3]
      exact ⟨by simp [e1], .inl e2⟩
    · rw [hl, hl2]
    · obtain ⟨_, key, b, e3, e4⟩ := hpr j k v e
      exact ⟨key, b, e3, e4⟩
    · obtain ⟨ks, hb, ex⟩ := key x hx
      rw [ex]
      obtain ⟨o, vs, n, g1, g2, g3, g4⟩ := key_of I.hok hb
      exact ⟨o, vs, n, hk _ _ (Nat.ne_of_lt (Heap.lt_size g1)) (by simp) g1, g2, g3, g4⟩
    · rw [hl2]; exact hz
    · have hlen : kvs.length ≤ sizeLine := by rw [Paired.length rel, hl]; exact hz
      have rm : KT H (Sg.mergeG [] kvs) (storedAllH [] prs) := KT.mergeG rel .nil
      rw [merge_nodup nd] at rm
      have fr := I.hok.fresh (Nat.le_refl s.heap.objs.size)
      obtain ⟨o, es, ep, g1, g2, g3, g4, g5, g6⟩ := hd'
      refine ⟨.ref s.heap.objs.size, upd H s.heap.objs.size (.dT kvs), I.laid (t' := tk) (fun b o e => k b o (by simp) e) (Nat.le_refl _) (show ObjOk X.prog X.w _ _ _ (.dT kvs) from ⟨hlen, hm, storedAllH [] prs, rm.keeps (fun b ys e => ?_), o, es, ep, g1, g2, g3, g4, g6⟩), rfl, q _ fr⟩
      rw [upd_ne (ne_of_none e fr)]; exact e
end
end Sg

set_option Elab.async false
set_option linter.all false
set_option maxRecDepth 100000
set_option maxHeartbeats 4000000
namespace Sg
open PySem PySem.Spec PyProof.Rows L2
theorem SqP.tk {K : PySem.W.Frag} {H H' : Hp} {a : Addr} {xs : List V} (h : SqP K H a xs) (s : TK H H') : SqP K H' a xs := by
  rcases h with ⟨o, h, hd⟩ | h
  · exact .inl ⟨o, s.f _ _ _ h, hd⟩
  · exact .inr h
def RegsAt (K : PySem.W.Frag) (H : Hp) (r : Addr) (rs : List (Int × Int)) : Prop := ∃ ps : List Addr, SqT K H r (ps.map V.ref) ∧ Paired (fun (p : Addr) (x : Int × Int) => H p = some (.tup [.int x.1, .int x.2])) ps rs
def HoldV (K : PySem.W.Frag) (H : Hp) (v : V) : Option (Int × Str) → Prop
  | none => v = .non
  | some (h, w) => ∃ q, v = .ref q ∧ SqT K H q [.int h, .str w] ∧ PyData.strOk w = true
def FenceAt (K : PySem.W.Frag) (H : Hp) (v : V) (rs : List (Int × Int)) (hd : Option (Int × Str)) : Prop := ∃ a r hv, v = .ref a ∧ SqT K H a [.ref r, hv] ∧ RegsAt K H r rs ∧ HoldV K H hv hd
section
variable {K : PySem.W.Frag} {H H' : Hp}
theorem RegsAt.tk {r : Addr} {rs : List (Int × Int)} (h : RegsAt K H r rs) (s : TK H H') : RegsAt K H' r rs := by
  obtain ⟨ps, a, b⟩ := h
  exact ⟨ps, sqT_tk a s, Paired.imp2 (fun _ _ q => s.t _ _ q) b⟩
theorem HoldV.tk {v : V} {hd : Option (Int × Str)} (h : HoldV K H v hd) (s : TK H H') : HoldV K H' v hd := by
  cases hd with
  | none => exact h
  | some x => obtain ⟨q, a, b, c⟩ := h; exact ⟨q, a, sqT_tk b s, c⟩
theorem FenceAt.tk {v : V} {rs : List (Int × Int)} {hd : Option (Int × Str)} (h : FenceAt K H v rs hd) (s : TK H H') : FenceAt K H' v rs hd := by
  obtain ⟨a, r, hv, e, h1, h2, h3⟩ := h
  exact ⟨a, r, hv, e, sqT_tk h1 s, h2.tk s, h3.tk s⟩
end
structure LB (mg : Str → Option Value) : Prop where
  len : mg "len" = none
  abs : mg "abs" = none
  int : mg "int" = none
  list : mg "list" = none
  tuple : mg "tuple" = none
  sorted : mg "sorted" = none
  range : mg "range" = none
/-- [x for x in t if ..]: what is left, in its order -/
theorem lc_filtT {K : PySem.W.Frag} {σ : L2.St} {H1 : Hp} {D a : Addr} {vs : List Nat} {j : Nat} {xs : List V} {tt : TT} {te : TE} {Qd : Hp → Prop} (f : V → Bool) (hD : H1 D = Option.none) (hx : SqT K H1 a xs) (hw : ∀ x, wipe ((wipe σ vs).set j (some x)) vs = wipe σ vs) (hz : xs.length ≤ sizeLine)
    (he : ∀ (x : V) (H' : Hp) (Q' : Bool → Hp → Prop), x ∈ xs → Same H1 H' → (∀ H'', Same H' H'' → Q' (f x) H'') → tt ((wipe σ vs).set j (some x)) H' Q')
    (hv : ∀ (x : V) (H' : Hp) (Q' : VK), x ∈ xs → Q' x H' → te ((wipe σ vs).set j (some x)) H' Q')
    (hd : ∀ H', Same H1 H' → H' D = some (.lst (xs.filter f)) → Qd H') :
    ∃ W : Nat → Nat → Hp → Prop, (∃ m, W 0 m (upd H1 D (.lst []))) ∧ ∀ i m H, W i m H →
      ((Itt K a).stop i H ∧ Qd H) ∨ ((Itt K a).go i H ∧ ∃ Nx : Hp → Prop, (∀ H', Nx H' → ∃ m', m' < m ∧ W (i + 1) m' H') ∧ ∀ x H', (Itt K a).yld i H x H' → gName j x (wipe σ vs) H' fun σ2 H2 => wipe σ2 vs = wipe σ vs ∧ tt σ2 H2 fun b H3 =>
        if b = true then te σ2 H3 fun y H4 => ∃ acc, H4 D = some (.lst acc) ∧ acc.length < sizeLine ∧ Nx (upd H4 D (.lst (acc ++ [y]))) else Nx H3) := by
  refine lc_tup (K := K) (a := a) (xs := xs) (fun i H' => i ≤ xs.length ∧ Same H1 H' ∧ H' D = some (.lst ((xs.take i).filter f))) ⟨Nat.zero_le _, same_new hD, by rw [List.take_zero]; exact upd_same⟩ (fun i H' _ ⟨_, sm, _⟩ => sqT_tk hx (TK.of sm)) ?_ ?_
  · rintro i x H' hi ⟨_, sm, hDl⟩
    have hil := (List.getElem?_eq_some_iff.mp hi).1
    have hm := List.mem_of_getElem? hi
    refine ⟨hw _, he x H' _ hm sm fun H'' s2 => ?_⟩
    have hD2 := s2 _ _ hDl
    have hlen : ((xs.take i).filter f).length ≤ i := Nat.le_trans (List.length_filter_le _ _) (by rw [List.length_take]; omega)
    cases hf : f x with
    | true =>
      rw [if_pos rfl]
      refine hv x H'' _ hm ⟨_, hD2, by omega, by omega, ?_, ?_⟩
      · intro y o hy'
        rw [upd_ne (ne_of_none hy' hD)]
        exact s2 _ _ (sm _ _ hy')
      · rw [upd_same, List.take_add_one, hi, List.filter_append]
        simp [hf]
    | false =>
      rw [if_neg Bool.false_ne_true]
      refine ⟨by omega, sm.trans s2, ?_⟩
      rw [hD2, List.take_add_one, hi, List.filter_append]
      simp [hf]
  · rintro H' ⟨_, sm, hDl⟩
    exact hd H' sm (by rw [List.take_length] at hDl; exact hDl)
/-! ### pairs in the heap -/
def kOf (H : Hp) : V → Int × Int
  | .ref t => match H t with
    | some (.tup [.int i, .int j]) => (i, j)
    | _ => (0, 0)
  | _ => (0, 0)
def PairV (H : Hp) (x : V) : Prop := ∃ t, x = .ref t ∧ H t = some (.tup [.int (kOf H x).1, .int (kOf H x).2])
theorem kOf_at {H : Hp} {t : Addr} {i j : Int} (h : H t = some (.tup [.int i, .int j])) : kOf H (.ref t) = (i, j) := by
  show (match H t with | some (.tup [.int i, .int j]) => (i, j) | _ => ((0 : Int), (0 : Int))) = (i, j)
  rw [h]
theorem pairV_at {H : Hp} {t : Addr} {i j : Int} (h : H t = some (.tup [.int i, .int j])) : PairV H (.ref t) := ⟨t, rfl, by rw [kOf_at h]; exact h⟩
theorem PairV.tk {H H' : Hp} {x : V} (h : PairV H x) (s : TK H H') : PairV H' x ∧ kOf H' x = kOf H x := by
  obtain ⟨t, rfl, e⟩ := h
  have e' := s.t _ _ e
  exact ⟨pairV_at e', kOf_at e'⟩
theorem regs_xs {K : PySem.W.Frag} {H : Hp} {r : Addr} {rs : List (Int × Int)} (h : RegsAt K H r rs) : ∃ xs, SqT K H r xs ∧ (∀ x ∈ xs, PairV H x) ∧ rs = xs.map (kOf H) := by
  obtain ⟨ps, h1, h2⟩ := h
  refine ⟨_, h1, ?_, ?_⟩
  · intro x hx
    obtain ⟨p, hp, rfl⟩ := List.mem_map.mp hx
    clear h1 hx
    induction h2 with
    | nil => cases hp
    | cons r t ih =>
      rcases List.mem_cons.mp hp with rfl | hp
      · exact pairV_at r
      · exact ih hp
  · clear h1
    induction h2 with
    | nil => rfl
    | cons r t ih => rw [List.map_cons, List.map_cons, ← ih, kOf_at r]
theorem xs_pair {H : Hp} : ∀ {xs : List V}, (∀ x ∈ xs, PairV H x) → ∃ ps : List Addr, xs = ps.map V.ref ∧ Paired (fun (p : Addr) (x : Int × Int) => H p = some (.tup [.int x.1, .int x.2])) ps (xs.map (kOf H))
  | [], _ => ⟨[], rfl, .nil⟩
  | x :: xs, h => by
    obtain ⟨ps, e, pr⟩ := xs_pair (xs := xs) fun y hy => h y (List.mem_cons_of_mem _ hy)
    obtain ⟨t, rfl, ht⟩ := h x List.mem_cons_self
    exact ⟨t :: ps, by rw [e]; rfl, .cons ht pr⟩
theorem regs_of {K : PySem.W.Frag} {H : Hp} {r : Addr} {xs : List V} (h1 : SqT K H r xs) (h2 : ∀ x ∈ xs, PairV H x) : RegsAt K H r (xs.map (kOf H)) := by
  obtain ⟨ps, rfl, pr⟩ := xs_pair h2
  exact ⟨ps, h1, pr⟩
theorem regs_len {K : PySem.W.Frag} {H : Hp} {r : Addr} {rs : List (Int × Int)} (h : RegsAt K H r rs) : ∃ ps : List Addr, SqT K H r (ps.map V.ref) ∧ ps.length = rs.length := by
  obtain ⟨ps, h1, h2⟩ := h
  exact ⟨ps, h1, h2.length⟩
def spWithHolder (K : PySem.W.Frag) : Sp := fun vs H Q _ => ∃ fv hv rs hd hd', vs = [fv, hv] ∧ FenceAt K H fv rs hd ∧ HoldV K H hv hd' ∧ ∀ a H', Same H H' → FenceAt K H' (.ref a) rs hd' → Q (.ref a) H'
def outR (rs : List (Int × Int)) (h : Int) : List (Int × Int) := rs.filter fun x => !decide (x.1 = h)
def spWithoutKey (K : PySem.W.Frag) : Sp := fun vs H Q _ => ∃ fv h rs hd, vs = [fv, .int h] ∧ FenceAt K H fv rs hd ∧ rs.length ≤ 1000 ∧ ∀ a H', Same H H' → FenceAt K H' (.ref a) (outR rs h) hd → Q (.ref a) H'
def spWithKey (K : PySem.W.Frag) : Sp := fun vs H Q _ => ∃ fv h k rs hd, vs = [fv, .int h, .int k] ∧ FenceAt K H fv rs hd ∧ rs.length ≤ 999 ∧ ∀ a rs' H', Same H H' → rs'.Perm (outR rs h ++ [(h, k)]) → (rs'.map (·.1)).Pairwise (· ≤ ·) → FenceAt K H' (.ref a) rs' hd → Q (.ref a) H'
section
variable {P : Program} {wrl : World} {K : PySem.W.Frag} {mg : Str → Option Value} {base : Heap} {f fO : Addr} {fd fdO : FuncData}
theorem scWithHolder : FnScope ["fence", "reservation", "registrations", "_"] ["fence", "reservation"] (defScope sWithHolder) := ⟨rfl, rfl, rfl, by decide +kernel, rfl, by decide +kernel, by decide +kernel⟩
theorem ok_withHolder (F : Fun K "with_holder" "with_holder" sWithHolder f fd) : FnOk P wrl K mg base CX0 1 f fd ["fence", "reservation"] (spWithHolder K) := by
  refine F.ok scWithHolder (fun vs H Q E h => ?_) (fun cdv A outer s H vs Q E hr h => ?_)
  · obtain ⟨fv, hv, rs, hd, hd', rfl, _⟩ := h
    rfl
  · obtain ⟨fv, hv', rs, hd, hd', rfl, ⟨a, r, hv, rfl, h1, h2, h4⟩, h5, q⟩ := h
    refine ⟨_, (pss_cons (ps_asg (pv 0) (pg_tup (by rfl) (pgs_cons (pg_name (i := 2) scWithHolder.nd rfl (Or.inl rfl)) (pgs_cons (pg_name (i := 3) scWithHolder.nd rfl (Or.inl rfl)) L2.pgs_nil))))
      (pss_one (ps_ret (pe_tup (pa_cons (pv 2) (pa_cons (pv 1) pa_nil)))))), ?_⟩
    refine ⟨_, rfl, a, _, rfl, h1, rfl, _, _, rfl, _, _, rfl, rfl, ?_⟩
    refine ⟨_, rfl, _, rfl, by show 2 ≤ sizeLine; decide, fun t ht => ?_⟩
    have s := same_new (o := .tup [V.ref r, hv']) ht
    exact q t _ s ⟨t, r, hv', rfl, SqT.of upd_same, h2.tk (TK.of s), h5.tk (TK.of s)⟩
theorem scWithoutKey : FnScope ["fence", "host", "registrations", "reservation", "row"] ["fence", "host"] (defScope sWithoutKey) := ⟨rfl, rfl, rfl, by decide +kernel, rfl, by decide +kernel, by decide +kernel⟩
theorem ok_withoutKey (F : Fun K "without_key" "without_key" sWithoutKey f fd) (B : LB mg) : FnOk P wrl K mg base CX0 1 f fd ["fence", "host"] (spWithoutKey K) := by
  refine F.ok scWithoutKey (fun vs H Q E h => ?_) (fun cdv A outer s H vs Q E hr h => ?_)
  · obtain ⟨fv, h, rs, hd, rfl, _⟩ := h
    rfl
  · obtain ⟨fv, h, rs, hd, rfl, ⟨a, r, hv, rfl, h1, h2, h4⟩, hl, q⟩ := h
    refine ⟨_, (pss_cons (ps_asg (pv 0) (pg_tup (by rfl) (pgs_cons (pg_name (i := 2) scWithoutKey.nd rfl (Or.inl rfl)) (pgs_cons (pg_name (i := 3) scWithoutKey.nd rfl (Or.inl rfl)) L2.pgs_nil))))
      (pss_one (ps_ret (pe_tup (pa_cons (pe_callTy call_tupP (by rfl) B.tuple (by decide +kernel) (pa_cons (pe_lc (own := [("row", 4)]) (g := gName 4) (tt := tTest (tOp rNe (tOp (rIxT K) (tVar 4) (tC (.int 0))) (tVar 1))) (te := tVar 4) (by rfl) scWithoutKey.nd (pi_tup (pv 2)) (blkOk_by (own := [("row", 4)]) (N := ["fence", "host", "registrations", "reservation", "row"]) (sc := defScope sWithoutKey) (by decide +kernel)) (fun _ _ _ _ _ => pg_name (i := 4) scWithoutKey.nd rfl (Or.inl rfl)) (fun _ _ _ _ _ => pts_one (pt_cmpR op_ne (pe_ix ix_tup (pv 4) pe_int (fun _ _ => rfl)) (pv 1) (nomark _))) (fun _ _ _ _ _ => by exact (pv 4))) pa_nil)) (pa_cons (pv 3) pa_nil)))))), ?_⟩
    refine ⟨_, rfl, a, _, rfl, h1, rfl, _, _, rfl, _, _, rfl, rfl, ?_⟩
    obtain ⟨xs, g1, g2, rfl⟩ := regs_xs h2
    rw [List.length_map] at hl
    refine ⟨_, rfl, r, rfl, ⟨_, g1⟩, fun D hD => ?_⟩
    refine lc_filtT (fun x => !decide ((kOf H x).1 = h)) hD g1 (fun _ => rfl) (Nat.le_of_lt (small1000 hl)) (fun x H' Q' hm sm k => ?_) (fun x H' Q' hm k => ⟨_, rfl, k⟩) fun H' sm hDl => ?_
    · obtain ⟨t, rfl, ht⟩ := g2 x hm
      refine ⟨_, rfl, t, _, _, _, rfl, rfl, SqT.of (sm _ _ ht), atI_nat (j := 0) rfl, _, rfl, rfl, _, rfl, ?_⟩
      have e : decide (V.int (kOf H (.ref t)).1 = V.int h) = decide ((kOf H (.ref t)).1 = h) := by
        by_cases z : (kOf H (.ref t)).1 = h
        · rw [decide_eq_true z, decide_eq_true (show V.int _ = V.int h by rw [z])]
        · rw [decide_eq_false z, decide_eq_false (show ¬ V.int _ = V.int h from fun y => z (by injection y))]
      rw [e]
      exact k H' (Same.refl H')
    · refine ⟨D, _, rfl, SqL.of hDl, fun u o hu od => ?_⟩
      have s2 := sm.trans (same_new (o := .frz o (.tup (xs.filter fun x => !decide ((kOf H x).1 = h)))) hu)
      refine ⟨_, rfl, by show 2 ≤ sizeLine; decide, fun t ht => ?_⟩
      have s3 := s2.trans (same_new (o := .tup [V.ref u, hv]) ht)
      refine q t _ s3 ⟨t, u, hv, rfl, SqT.of upd_same, ?_, h4.tk (TK.of s3)⟩
      have pv := fun x (hx : x ∈ xs.filter fun x => !decide ((kOf H x).1 = h)) => (g2 x ((List.mem_filter.mp hx).1)).tk (TK.of s3)
      have rg := regs_of (K := K) (.inl (.inr ⟨o, (same_new (o := .tup [V.ref u, hv]) ht) _ _ upd_same⟩)) (fun x hx => (pv x hx).1)
      have e : (xs.filter fun x => !decide ((kOf H x).1 = h)).map (kOf H) = outR (xs.map (kOf H)) h := by
        unfold outR
        rw [List.filter_map]
        rfl
      rw [List.map_congr_left (fun x hx => (pv x hx).2), e] at rg
      exact rg
theorem scWithKey : FnScope ["fence", "host", "key", "registrations", "reservation"] ["fence", "host", "key"] (defScope sWithKey) := ⟨rfl, rfl, rfl, by decide +kernel, rfl, by decide +kernel, by decide +kernel⟩
theorem ok_withKey (F : Fun K "with_key" "with_key" sWithKey f fd) (B : LB mg) (GO : Def P wrl K mg base CX0 "without_key" 1 ["fence", "host"] (spWithoutKey K) fO fdO) : FnOk P wrl K mg base CX0 2 f fd ["fence", "host", "key"] (spWithKey K) := by
  refine F.ok scWithKey (fun vs H Q E h => ?_) (fun cdv A outer s H vs Q E hr h => ?_)
  · obtain ⟨fv, h, k, rs, hd, rfl, _⟩ := h
    rfl
  · obtain ⟨fv, h, k, rs, hd, rfl, FA, hl, q⟩ := h
    refine ⟨_, (pss_cons (ps_asg (pe_call GO.ok hr (by rfl) GO.mg GO.kp GO.bd .nil pass0 (pa_cons (pv 0) (pa_cons (pv 1) pa_nil))) (pg_tup (by rfl) (pgs_cons (pg_name (i := 3) scWithKey.nd rfl (Or.inl rfl)) (pgs_cons (pg_name (i := 4) scWithKey.nd rfl (Or.inl rfl)) L2.pgs_nil))))
      (pss_one (ps_ret (pe_tup (pa_cons (pe_callTy call_tupP (by rfl) B.tuple (by decide +kernel) (pa_cons (pe_callB cr_sortedPO (by rfl) B.sorted (by decide +kernel) (pa_cons (pe_lst (StX.pa_star (pv 3) (pa_cons (pe_tup (pa_cons (pv 1) (pa_cons (pv 2) pa_nil))) pa_nil))) pa_nil)) pa_nil)) (pa_cons (pv 4) pa_nil)))))), ?_⟩
    refine ⟨_, rfl, _, rfl, fv, h, rs, hd, rfl, FA, by omega, fun a H1 s1 ⟨a', r, hv, ea, h1, h2, h4⟩ => ?_⟩
    cases ea
    refine ⟨a, _, rfl, h1, rfl, _, _, rfl, _, _, rfl, rfl, ?_⟩
    obtain ⟨xs, g1, g2, e⟩ := regs_xs h2
    have hxl : xs.length ≤ 999 := by
      have e2 := congrArg List.length e
      rw [List.length_map] at e2
      rw [← e2]
      exact Nat.le_trans (List.length_filter_le _ _) hl
    refine ⟨_, rfl, r, xs, rfl, .inl g1, _, rfl, _, rfl, by show 2 ≤ sizeLine; decide, fun t ht => ?_⟩
    have s2 := same_new (o := .tup [V.int h, V.int k]) ht
    have pv := fun x (hx : x ∈ xs) => (g2 x hx).tk (TK.of s2)
    refine ⟨by rw [List.length_append]; exact Nat.le_of_lt (small1000 (by simp only [List.length_cons, List.length_nil]; omega)), fun l hl => ?_⟩
    have s3 := same_new (o := .lst (xs ++ [V.ref t])) hl
    have pt : ∀ x ∈ xs ++ [V.ref t], PairV (upd H1 t (.tup [V.int h, V.int k])) x := fun x hx => by
      rcases List.mem_append.mp hx with hx | hx
      · exact (pv x hx).1
      · rw [List.mem_singleton.mp hx]; exact pairV_at upd_same
    have p3 := fun x (hx : x ∈ xs ++ [V.ref t]) => (pt x hx).tk (TK.of s3)
    refine ⟨l, _, kOf (upd (upd H1 t (.tup [V.int h, V.int k])) l (.lst (xs ++ [V.ref t]))), rfl, SqL.of upd_same, fun x hx => (p3 x hx).1, fun ys l2 so st hl2 => ?_⟩
    have s4 := same_new (o := .lst ys) hl2
    refine ⟨l2, _, rfl, SqL.of upd_same, fun u o hu od => ?_⟩
    have s5 := same_new (o := .frz o (.tup ys)) hu
    refine ⟨_, rfl, by show 2 ≤ sizeLine; decide, fun t3 ht3 => ?_⟩
    have s6 := same_new (o := .tup [V.ref u, hv]) ht3
    have s36 := s3.trans (s4.trans (s5.trans s6))
    have s16 := s1.trans (s2.trans s36)
    have my : ∀ y ∈ ys, y ∈ xs ++ [V.ref t] := fun y hy => st.perm.mem_iff.mp hy
    have p6 := fun y (hy : y ∈ ys) => (pt y (my y hy)).tk (TK.of s36)
    have rg := regs_of (K := K) (.inl (.inr ⟨o, s6 _ _ upd_same⟩)) (fun y hy => (p6 y hy).1)
    rw [List.map_congr_left (fun y hy => (p6 y hy).2)] at rg
    refine q t3 (ys.map (kOf (upd H1 t (.tup [V.int h, V.int k])))) _ s16 ?_ ?_ ⟨t3, u, hv, rfl, SqT.of upd_same, rg, h4.tk (TK.of (s2.trans s36))⟩
    · refine (st.perm.map _).trans ?_
      rw [List.map_append, List.map_congr_left (fun x hx => (pv x hx).2), ← e]
      rw [show List.map (kOf (upd H1 t (.tup [V.int h, V.int k]))) [V.ref t] = [(h, k)] by rw [List.map_cons, kOf_at upd_same]; rfl]
    · rw [List.map_map, List.pairwise_map]
      refine List.Pairwise.imp_of_mem (fun {x y} hx hy hxy => ?_) so
      have a1 := SrtO.lexB_no.mp hxy
      rw [(p3 x (my x hx)).2, (p3 y (my y hy)).2] at a1
      show (kOf _ x).1 ≤ (kOf _ y).1
      omega
end
end Sg

set_option Elab.async false
set_option linter.all false
set_option maxRecDepth 100000
set_option maxHeartbeats 4000000
namespace Sg
open PySem PySem.Spec PyProof.Rows L2
/-! ### _changed: a table with a name put anew at its end, or without it -/
def chg {κ : Type} [DecidableEq κ] (l : List (κ × V)) (k : κ) (z : V) : List (κ × V) := if z = .non then dropK l k else dropK l k ++ [(k, z)]
def ChIn {K : PySem.W.Frag} {κ : Type} [DecidableEq κ] (T : TKd K κ) (vs : List V) (H : Hp) (Q : VK) : Prop := ∃ (d : Addr) (y z : V) (l : List (κ × V)) (k : κ), vs = [.ref d, y, z] ∧ H d = some (T.ho l) ∧ T.at' H y k ∧ T.ok k ∧ (∀ p ∈ l, T.ok p.1) ∧ (l.map (·.1)).Nodup ∧ l.length ≤ 1000 ∧
  ∀ D H', Same H H' → H D = none → H' D = some (T.ho (chg l k z)) → Q (.ref D) H'
def spChanged (K : PySem.W.Frag) : Sp := fun vs H Q _ => ChIn (kdK K) vs H Q ∨ ChIn (kdT K) vs H Q
theorem chooseF {b : Bool} {A B : Prop} (h : b = false) (x : B) : (if b = true then A else B) := by rw [h]; exact x
theorem chooseT {b : Bool} {A B : Prop} (h : b = true) (x : A) : (if b = true then A else B) := by rw [if_pos h]; exact x
theorem u0_of {k : Nat} {A : Around} (hr : Room k A) : A.units < cLine := by have := hr.un; omega
theorem u64_of {k : Nat} {A : Around} (hr : Room k A) : A.units + 64 < cLine := by have := hr.un; omega
theorem drop_valV {κ : Type} [DecidableEq κ] {l : List (κ × V)} {k : κ} : valV (dropK l k) k = none := valV_none fun p hp => by
  have := (List.mem_filter.mp hp).2
  simpa using this
section
variable {P : Program} {wd : World} {K : PySem.W.Frag} {mg : Str → Option Value} {base : Heap} {f fC : Addr} {fd fdC : FuncData}
theorem scChanged : FnScope ["table", "name", "value", "changed", "other"] ["table", "name", "value"] (defScope sChanged) := ⟨rfl, rfl, rfl, by decide +kernel, rfl, by decide +kernel, by decide +kernel⟩
theorem ok_changed (F : Fun K "_changed" "_changed" sChanged f fd) : FnOk P wd K mg base CX0 1 f fd ["table","name","value"] (spChanged K) := by
  refine F.ok scChanged (fun vs H Q E h => ?_) (fun cdv A outer s H vs Q E hr h => ?_)
  · rcases h with ⟨d, y, z, l, k, rfl, _⟩ | ⟨d, y, z, l, k, rfl, _⟩ <;> rfl
  · refine ⟨_, (pss_cons (ps_lock (ps_setDcP (i := 3) (own := [("other", 4)]) (g := gName 4) (tt := tTest (tOp (rNeD K) (tVar 4) (tVar 1))) (tk := tVar 4) (tv := tDGet (tVar 0) (tVar 4)) (by rfl) (u0_of hr) scChanged.nd rfl rfl (sw_dc rfl rfl rfl (by decide +kernel)) (pi_keys (pv 0)) (blkOk_by (own := [("other", 4)]) (N := ["table", "name", "value", "changed", "other"]) (sc := defScope sChanged) (by decide +kernel)) ⟨fun _ _ _ _ _ => pg_name (i := 4) scChanged.nd rfl (Or.inl rfl), fun _ _ _ _ _ => pts_one (by exact (pt_cmpR (op_neD (u64_of hr)) (pv 4) (pv 1) (by rfl))), fun _ _ _ _ _ => by exact (pv 4), fun _ _ _ _ _ => by exact (pe_dget (hu_of hr) (pv 0) (pv 4) (fun _ _ => rfl))⟩))
      (pss_cons (ps_if (pt_cmpR op_notN (pv 2) pe_non (nomark _))
      (pss_one (ps_dput (hu_of hr) (pv 3) (pv 1) (pv 2) rfl)) pss_nil)
      (pss_one (ps_ret (pv 3))))), ?_⟩
    rcases h with ⟨d, y, z, l, k, rfl, hd, hk, ok0, ok, nd, hl, q⟩ | ⟨d, y, z, l, k, rfl, hd, hk, ok0, ok, nd, hl, q⟩
    · refine keep_ts (kdK K) (show 4 < 5 by decide) (by decide) (by decide) rfl rfl hd hk ok0 ok nd hl fun D H1 s1 hD hD1 => ?_
      have hk1 : (kdK K).at' H1 y k := (kdK K).tk (TK.of s1) hk
      refine ⟨_, rfl, rfl, _, rfl, ?_⟩
      by_cases c : z = .non
      · refine chooseF (by simp [c]) ?_
        refine ⟨_, rfl, q D H1 s1 hD ?_⟩
        rw [hD1, chg, if_pos c]
      · refine chooseT (by simp [c]) ?_
        refine ⟨_, rfl, _, rfl, _, rfl, D, _, rfl, (kdK K).put hD1 hk1 (small1000 (Nat.le_trans dropK_len hl)), _, rfl, q D _ (fun b o e => ?_) hD ?_⟩
        · have : b ≠ D := fun w => by rw [w, hD] at e; cases e
          rw [upd_ne this]; exact s1 _ _ e
        · rw [putK_new z drop_valV, chg, if_neg c]; exact upd_same
    · refine keep_ts (kdT K) (show 4 < 5 by decide) (by decide) (by decide) rfl rfl hd hk ok0 ok nd hl fun D H1 s1 hD hD1 => ?_
      have hk1 : (kdT K).at' H1 y k := (kdT K).tk (TK.of s1) hk
      refine ⟨_, rfl, rfl, _, rfl, ?_⟩
      by_cases c : z = .non
      · refine chooseF (by simp [c]) ?_
        refine ⟨_, rfl, q D H1 s1 hD ?_⟩
        rw [hD1, chg, if_pos c]
      · refine chooseT (by simp [c]) ?_
        refine ⟨_, rfl, _, rfl, _, rfl, D, _, rfl, (kdT K).put hD1 hk1 (small1000 (Nat.le_trans dropK_len hl)), _, rfl, q D _ (fun b o e => ?_) hD ?_⟩
        · have : b ≠ D := fun w => by rw [w, hD] at e; cases e
          rw [upd_ne this]; exact s1 _ _ e
        · rw [putK_new z drop_valV, chg, if_neg c]; exact upd_same
end
end Sg

set_option Elab.async false
set_option linter.all false
set_option maxRecDepth 100000
set_option maxHeartbeats 4000000
namespace Sg
open PySem PySem.Spec PyProof.Rows L2
/-! ### states, as data -/
abbrev Cells := List (Int × Int)
structure Spc where
  z : Int
  cs : Cells
  rg : List (Int × Int)
  hd : Option (Int × Str)
structure Mrk where
  s : Int
  c : Int
  an : PyData
  td : PyData
structure Sta where
  o : Int
  sp : List (Int × Spc)
  sn : List ((Int × Int) × Cells)
  mr : List (Int × Mrk)
def delI {α β : Type} [DecidableEq α] (l : List (α × β)) (k : α) : List (α × β) := l.filter fun p => decide (p.1 ≠ k)
def putI {α β : Type} [DecidableEq α] (l : List (α × β)) (k : α) (v : β) : List (α × β) := delI l k ++ [(k, v)]
def setI {α β : Type} [DecidableEq α] (l : List (α × β)) (k : α) : Option β → List (α × β)
  | none => delI l k
  | some v => putI l k v
def holdD : Option (Int × Str) → PyData
  | none => .none
  | some (h, w) => .tuple [.int h, .str w]
def rowD (p : Int × Int) : PyData := .tuple [.int p.1, .int p.2]
def fenceD (rg : List (Int × Int)) (hd : Option (Int × Str)) : PyData := .tuple [.tuple (rg.map rowD), holdD hd]
def markD (m : Mrk) : PyData := .tuple [.int m.s, .int m.c, m.an, m.td]
section
variable {K : PySem.W.Frag} {κ α β : Type} [DecidableEq κ] [DecidableEq α]
def TabAt (T : TKd K κ) (R : Hp → V → β → Prop) (emb : α → κ) (H : Hp) (d : Addr) (l : List (α × β)) : Prop := ∃ kvs, H d = some (T.ho kvs) ∧ Paired (fun (p : κ × V) (q : α × β) => p.1 = emb q.1 ∧ R H p.2 q.2) kvs l ∧ (l.map (·.1)).Nodup
theorem TabAt.same {T : TKd K κ} {R : Hp → V → β → Prop} {emb : α → κ} {H H' : Hp} {d : Addr} {l : List (α × β)} (hR : ∀ x v, R H x v → R H' x v) (s : Same H H') (h : TabAt T R emb H d l) : TabAt T R emb H' d l := by
  obtain ⟨kvs, a, b, c⟩ := h
  exact ⟨kvs, s _ _ a, Paired.imp2 (fun p q z => ⟨z.1, hR _ _ z.2⟩) b, c⟩
theorem pr_keys {R : V → β → Prop} {emb : α → κ} : ∀ {kvs : List (κ × V)} {l : List (α × β)}, Paired (fun (p : κ × V) (q : α × β) => p.1 = emb q.1 ∧ R p.2 q.2) kvs l → kvs.map (·.1) = l.map fun q => emb q.1
  | _, _, .nil => rfl
  | _, _, .cons h t => by rw [List.map_cons, List.map_cons, h.1, pr_keys t]
theorem pr_nodup {R : V → β → Prop} {emb : α → κ} (he : ∀ a b, emb a = emb b → a = b) {kvs : List (κ × V)} {l : List (α × β)} (h : Paired (fun (p : κ × V) (q : α × β) => p.1 = emb q.1 ∧ R p.2 q.2) kvs l) (nd : (l.map (·.1)).Nodup) : (kvs.map (·.1)).Nodup := by
  rw [pr_keys h, show (l.map fun q => emb q.1) = (l.map (·.1)).map emb from by rw [List.map_map]; rfl]
  exact List.Pairwise.map emb (fun a b n e => n (he _ _ e)) nd
theorem pr_drop {R : V → β → Prop} {emb : α → κ} (he : ∀ a b, emb a = emb b → a = b) {k : α} : ∀ {kvs : List (κ × V)} {l : List (α × β)}, Paired (fun (p : κ × V) (q : α × β) => p.1 = emb q.1 ∧ R p.2 q.2) kvs l → Paired (fun (p : κ × V) (q : α × β) => p.1 = emb q.1 ∧ R p.2 q.2) (dropK kvs (emb k)) (delI l k)
  | _, _, .nil => .nil
  | p :: kvs, q :: l, .cons h t => by
    have r := pr_drop he (k := k) t
    unfold dropK delI at r ⊢
    by_cases c : q.1 = k
    · rw [List.filter_cons_of_neg (by simp [h.1, c]), List.filter_cons_of_neg (by simp [c])]; exact r
    · rw [List.filter_cons_of_pos (by simp only [decide_eq_true_eq, ne_eq]; exact fun e => c (he _ _ (h.1.symm.trans e))), List.filter_cons_of_pos (by simp [c])]; exact .cons h r
theorem pr_snoc {γ δ : Type} {R : γ → δ → Prop} {x : γ} {y : δ} (h : R x y) : ∀ {a : List γ} {b : List δ}, Paired R a b → Paired R (a ++ [x]) (b ++ [y])
  | _, _, .nil => .cons h .nil
  | _, _, .cons r t => .cons r (pr_snoc h t)
theorem del_nodup {l : List (α × β)} {k : α} (nd : (l.map (·.1)).Nodup) : ((delI l k).map (·.1)).Nodup := List.Nodup.sublist (List.Sublist.map _ List.filter_sublist) nd
theorem put_nodup {l : List (α × β)} {k : α} {v : β} (nd : (l.map (·.1)).Nodup) : ((putI l k v).map (·.1)).Nodup := by
  unfold putI
  rw [List.map_append, List.nodup_append]
  refine ⟨del_nodup nd, by simp, fun a ha b hb e => ?_⟩
  obtain ⟨p, hp, rfl⟩ := List.mem_map.mp ha
  have := (List.mem_filter.mp hp).2
  simp at hb this
  exact this (e.trans hb)
theorem set_nodup {l : List (α × β)} {k : α} {v : Option β} (nd : (l.map (·.1)).Nodup) : ((setI l k v).map (·.1)).Nodup := by
  cases v with
  | none => exact del_nodup nd
  | some v => exact put_nodup nd
theorem del_len {l : List (α × β)} {k : α} : (delI l k).length ≤ l.length := List.length_filter_le _ _
theorem set_len {l : List (α × β)} {k : α} {v : Option β} : (setI l k v).length ≤ l.length + 1 := by
  have := del_len (l := l) (k := k)
  cases v with
  | none => exact Nat.le_succ_of_le this
  | some v => show (delI l k ++ [(k, v)]).length ≤ _; rw [List.length_append]; simp; exact this
/-- what is put: none, or the thing -/
def OptAt (R : Hp → V → β → Prop) (H : Hp) (z : V) : Option β → Prop
  | none => z = .non
  | some v => z ≠ .non ∧ R H z v
theorem pr_set {R : V → β → Prop} {emb : α → κ} (he : ∀ a b, emb a = emb b → a = b) {k : α} {z : V} {v : Option β} (hz : match v with | none => z = .non | some v => z ≠ .non ∧ R z v) {kvs : List (κ × V)} {l : List (α × β)} (h : Paired (fun (p : κ × V) (q : α × β) => p.1 = emb q.1 ∧ R p.2 q.2) kvs l) :
    Paired (fun (p : κ × V) (q : α × β) => p.1 = emb q.1 ∧ R p.2 q.2) (chg kvs (emb k) z) (setI l k v) := by
  unfold chg
  cases v with
  | none => rw [if_pos hz]; exact pr_drop he h
  | some v => rw [if_neg hz.1]; exact pr_snoc ⟨rfl, hz.2⟩ (pr_drop he h)
end
def eP (p : Int × Int) : List Key := [.inl p.1, .inl p.2]
theorem eP_inj : ∀ a b, eP a = eP b → a = b := fun a b e => by
  unfold eP at e
  simp only [List.cons.injEq, Sum.inl.injEq, and_true] at e
  exact Prod.ext e.1 e.2
abbrev eI : Int → Key := Sum.inl
theorem eI_inj : ∀ a b, eI a = eI b → a = b := fun a b e => Sum.inl.inj e
section
variable (K : PySem.W.Frag)
def CellAt (H : Hp) (c : Addr) (cs : Cells) : Prop := TabAt (kdK K) (fun _ x v => x = .int v) eI H c cs
def SpcAt (H : Hp) (v : V) (s : Spc) : Prop := ∃ a c f, v = .ref a ∧ SqT K H a [.int s.z, .ref c, f] ∧ CellAt K H c s.cs ∧ FenceAt K H f s.rg s.hd
def SnpAt (H : Hp) (v : V) (cs : Cells) : Prop := ∃ c, v = .ref c ∧ CellAt K H c cs
def MrkAt (H : Hp) (v : V) (m : Mrk) : Prop := Dp K H v (markD m)
def stK (o : Int) (b1 b2 b3 : Addr) : List (Key × V) := [(.inr "order", .int o), (.inr "spaces", .ref b1), (.inr "snaps", .ref b2), (.inr "marks", .ref b3)]
def StAt (H : Hp) (a : Addr) (st : Sta) : Prop := ∃ b1 b2 b3, H a = some (.dK (stK st.o b1 b2 b3)) ∧ TabAt (kdK K) (SpcAt K) eI H b1 st.sp ∧ TabAt (kdT K) (SnpAt K) eP H b2 st.sn ∧ TabAt (kdK K) (MrkAt K) eI H b3 st.mr
end
section
variable {K : PySem.W.Frag} {H H' : Hp}
theorem CellAt.same {c : Addr} {cs : Cells} (h : CellAt K H c cs) (s : Same H H') : CellAt K H' c cs := TabAt.same (fun _ _ z => z) s h
theorem SpcAt.same {v : V} {p : Spc} (h : SpcAt K H v p) (s : Same H H') : SpcAt K H' v p := by
  obtain ⟨a, c, f, e, h1, h2, h3⟩ := h
  exact ⟨a, c, f, e, SqT_same s h1, h2.same s, h3.tk (TK.of s)⟩
theorem SnpAt.same {v : V} {p : Cells} (h : SnpAt K H v p) (s : Same H H') : SnpAt K H' v p := by
  obtain ⟨c, e, h1⟩ := h
  exact ⟨c, e, h1.same s⟩
theorem MrkAt.same {v : V} {p : Mrk} (h : MrkAt K H v p) (s : Same H H') : MrkAt K H' v p := dp_same s _ _ h
theorem StAt.same {a : Addr} {st : Sta} (h : StAt K H a st) (s : Same H H') : StAt K H' a st := by
  obtain ⟨b1, b2, b3, e, h1, h2, h3⟩ := h
  exact ⟨b1, b2, b3, s _ _ e, TabAt.same (fun _ _ z => z.same s) s h1, TabAt.same (fun _ _ z => z.same s) s h2, TabAt.same (fun _ _ z => z.same s) s h3⟩
theorem SpcAt.ref {v : V} {p : Spc} (h : SpcAt K H v p) : v ≠ .non := by
  obtain ⟨a, c, f, e, _⟩ := h
  rw [e]; exact fun z => nomatch z
theorem SnpAt.ref {v : V} {p : Cells} (h : SnpAt K H v p) : v ≠ .non := by
  obtain ⟨a, e, _⟩ := h
  rw [e]; exact fun z => nomatch z
theorem MrkAt.ref {v : V} {p : Mrk} (h : MrkAt K H v p) : v ≠ .non := by
  unfold MrkAt markD at h
  cases h
  exact fun z => nomatch z
end
end Sg

set_option Elab.async false
set_option linter.all false
set_option maxRecDepth 100000
set_option maxHeartbeats 4000000
namespace Sg
open PySem PySem.Spec PyProof.Rows L2
/-! ### _with_entry -/
theorem merge_st {o : Int} {b1 b2 b3 : Addr} : mergeK [] (stK o b1 b2 b3) = stK o b1 b2 b3 := rfl
theorem put_o {o n : Int} {b1 b2 b3 : Addr} : putK (stK o b1 b2 b3) (.inr "order") (.int n) = stK n b1 b2 b3 := rfl
theorem put_sp {o : Int} {b1 b2 b3 n : Addr} : putK (stK o b1 b2 b3) (.inr "spaces") (.ref n) = stK o n b2 b3 := rfl
theorem put_sn {o : Int} {b1 b2 b3 n : Addr} : putK (stK o b1 b2 b3) (.inr "snaps") (.ref n) = stK o b1 n b3 := rfl
theorem put_mr {o : Int} {b1 b2 b3 n : Addr} : putK (stK o b1 b2 b3) (.inr "marks") (.ref n) = stK o b1 b2 n := rfl
theorem val_sp {o : Int} {b1 b2 b3 : Addr} : valV (stK o b1 b2 b3) (.inr "spaces") = some (.ref b1) := rfl
theorem val_sn {o : Int} {b1 b2 b3 : Addr} : valV (stK o b1 b2 b3) (.inr "snaps") = some (.ref b2) := rfl
theorem val_mr {o : Int} {b1 b2 b3 : Addr} : valV (stK o b1 b2 b3) (.inr "marks") = some (.ref b3) := rfl
inductive Ed
  | sp (n : Int) (v : Option Spc) | sn (k : Int × Int) (v : Option Cells) | mr (n : Int) (v : Mrk)
def edS : Ed → Sta → Sta
  | .sp n v, st => { st with sp := setI st.sp n v }
  | .sn k v, st => { st with sn := setI st.sn k v }
  | .mr n v, st => { st with mr := putI st.mr n v }
def edPart : Ed → Str
  | .sp _ _ => "spaces" | .sn _ _ => "snaps" | .mr _ _ => "marks"
def PairAt (H : Hp) (y : V) (k : Int × Int) : Prop := ∃ b, y = .ref b ∧ H b = some (.tup [.int k.1, .int k.2])
def EdAt (K : PySem.W.Frag) (H : Hp) (y z : V) : Ed → Prop
  | .sp n v => y = .int n ∧ OptAt (SpcAt K) H z v
  | .sn k v => PairAt H y k ∧ OptAt (SnpAt K) H z v
  | .mr n v => y = .int n ∧ MrkAt K H z v
structure SmallS (n : Nat) (st : Sta) : Prop where
  sp : st.sp.length ≤ n
  sn : st.sn.length ≤ n
  mr : st.mr.length ≤ n
  cs : ∀ p ∈ st.sp, p.2.cs.length ≤ n
  cn : ∀ p ∈ st.sn, p.2.length ≤ n
/-- what is new between two heaps stands in a third -/
def New (H H' H'' : Hp) : Prop := ∀ b u, H' b = some u → H b = none → H'' b = some u
def spWithEntry (K : PySem.W.Frag) : Sp := fun vs H Q _ => ∃ (H0 : Hp) (a : Addr) (st : Sta) (ed : Ed) (y z : V), vs = [.ref a, .str (edPart ed), y, z] ∧ Same H0 H ∧ StAt K H0 a st ∧ SmallS 1000 st ∧ EdAt K H0 y z ed ∧
  ∀ D H', Same H H' → H D = none → (∀ H'', Same H0 H'' → New H H' H'' → StAt K H'' D (edS ed st)) → Q (.ref D) H'
section
variable {K : PySem.W.Frag} {κ α β : Type} [DecidableEq κ] [DecidableEq α]
/-- a table's call of _changed, by its data -/
theorem ch_tab (T : TKd K κ) {R : Hp → V → β → Prop} {emb : α → κ} (he : ∀ a b, emb a = emb b → a = b) (hok : ∀ a, T.ok (emb a)) (hR : ∀ {H H' : Hp} {x v}, Same H H' → R H x v → R H' x v) {H : Hp} {d : Addr} {l : List (α × β)} {k : α} {y z : V} {v : Option β} {Q : VK}
    (h : TabAt T R emb H d l) (hl : l.length ≤ 1000) (hk : T.at' H y (emb k)) (hz : OptAt R H z v) (q : ∀ D H', Same H H' → H D = none → TabAt T R emb H' D (setI l k v) → Q (.ref D) H') : ChIn T [.ref d, y, z] H Q := by
  obtain ⟨kvs, hd, pr, nd⟩ := h
  refine ⟨d, y, z, kvs, emb k, rfl, hd, hk, hok k, fun p hp => ?_, pr_nodup he (R := R H) pr nd, by rw [Paired.length pr]; exact hl, fun D H' s hD hDn => q D H' s hD ⟨_, hDn, ?_, set_nodup nd⟩⟩
  · obtain ⟨j, hj⟩ := List.mem_iff_getElem?.mp hp
    obtain ⟨q, _, hq⟩ := paired_at pr hj
    rw [hq.1]; exact hok _
  · refine pr_set he (R := R H') ?_ (Paired.imp2 (fun p q z => ⟨z.1, hR s z.2⟩) pr)
    cases v with
    | none => exact hz
    | some v => exact ⟨hz.1, hR s hz.2⟩
theorem TabAt.off {T : TKd K κ} {R : Hp → V → β → Prop} {emb : α → κ} {H H' : Hp} {d : Addr} {l : List (α × β)} (h : TabAt T R emb H d l) (e : ∀ o, H d = some o → H' d = some o) (hR : ∀ x v, R H x v → R H' x v) : TabAt T R emb H' d l := by
  obtain ⟨kvs, a, b, c⟩ := h
  exact ⟨kvs, e _ a, Paired.imp2 (fun p q z => ⟨z.1, hR _ _ z.2⟩) b, c⟩
end
theorem TabAt.frz {K : PySem.W.Frag} {κ α β : Type} [DecidableEq κ] [DecidableEq α] {T : TKd K κ} {R : Hp → V → β → Prop} {emb : α → κ} {H H' : Hp} {d : Addr} {l : List (α × β)} (h : TabAt T R emb H d l) (s : Same H H') : TabAt T (fun _ => R H) emb H' d l := by
  obtain ⟨kvs, a, b, c⟩ := h
  exact ⟨kvs, s _ _ a, b, c⟩
theorem TabAt.thaw {K : PySem.W.Frag} {κ α β : Type} [DecidableEq κ] [DecidableEq α] {T : TKd K κ} {R : Hp → V → β → Prop} {emb : α → κ} {H0 H H' : Hp} {d : Addr} {l : List (α × β)} (h : TabAt T (fun _ => R H0) emb H d l) (e : ∀ u, H d = some u → H' d = some u) (hR : ∀ x v, R H0 x v → R H' x v) : TabAt T R emb H' d l := by
  obtain ⟨kvs, a, b, c⟩ := h
  exact ⟨kvs, e _ a, Paired.imp2 (fun p q z => ⟨z.1, hR _ _ z.2⟩) b, c⟩
theorem okI {K : PySem.W.Frag} : ∀ a, (kdK K).ok (eI a) := fun a x hx s e => by
  rw [List.mem_singleton.mp hx] at e; cases e
theorem okP {K : PySem.W.Frag} : ∀ a, (kdT K).ok (eP a) := fun a x hx s e => by
  unfold eP at hx
  simp at hx
  rcases hx with rfl | rfl <;> cases e
end Sg

set_option Elab.async false
set_option linter.all false
set_option maxRecDepth 100000
set_option maxHeartbeats 4000000
namespace Sg
open PySem PySem.Spec PyProof.Rows L2
section
variable {P : Program} {wd : World} {K : PySem.W.Frag} {mg : Str → Option Value} {base : Heap} {f fC : Addr} {fd fdC : FuncData}
theorem scWithEntry : FnScope ["state", "part", "name", "value"] ["state", "part", "name", "value"] (defScope sWithEntry) := ⟨rfl, rfl, rfl, by decide +kernel, rfl, by decide +kernel, by decide +kernel⟩
/-- the display {**t1, tk: tv} over a state's dict -/
theorem star_gen {σ : L2.St} {H : Hp} {Q : VK} {t1 tk tv : TE} {part : Str} {Pa : Int → Addr → Addr → Addr → Hp → Hp → Prop} {Tz : V → Hp → Hp → Prop}
    (h1 : ∀ D, H D = none → ∀ R : VK, (∀ a o b1 b2 b3 H1, Same (upd H D (.dK [])) H1 → H1 a = some (.dK (stK o b1 b2 b3)) → Pa o b1 b2 b3 (upd H D (.dK [])) H1 → R (.ref a) H1) → t1 σ (upd H D (.dK [])) R)
    (hk : ∀ (G : Hp) (R : VK), R (.str part) G → tk σ G R)
    (hv : ∀ o b1 b2 b3 G H1 H2 (R : VK), Pa o b1 b2 b3 G H1 → Same H G → (∀ b u, H1 b = some u → G b = none → H2 b = some u) → Same H H2 → (∀ z H3, Same H2 H3 → Tz z H2 H3 → R z H3) → tv σ H2 R)
    (q : ∀ D o b1 b2 b3 z G H1 H2 H3 H', H D = none → Pa o b1 b2 b3 G H1 → Same H G → Same H H2 → (∀ b u, H1 b = some u → G b = none → H' b = some u) → Tz z H2 H3 → (∀ b u, H3 b = some u → H2 b = none → H' b = some u) → Same H H' →
      H' D = some (.dK (putK (stK o b1 b2 b3) (.inr part) z)) → Q (.ref D) H') : tDStar t1 tk tv σ H Q := by
  intro D hD
  refine h1 D hD _ fun a o b1 b2 b3 H1 s1 ha pa => ?_
  have sG := same_new (o := .dK []) hD
  have hG : (upd H D (.dK [])) D = some (.dK []) := upd_same
  generalize upd H D (.dK []) = G at s1 pa sG hG
  have hD1 := s1 _ _ hG
  have nDa : D ≠ a := fun e => by rw [e, ha] at hD1; cases hD1
  refine ⟨a, stK o b1 b2 b3, rfl, .inl ha, nDa, hD1, small1000 (show 4 ≤ 1000 by decide), fun S hS => ?_⟩
  rw [merge_st] at hS ⊢
  have nDS : D ≠ S := fun e => by rw [← e, upd_same] at hS; cases hS
  have s2 := same_new (o := .dK []) hS
  have hS1 : H1 S = none := by rw [upd_ne (Ne.symm nDS)] at hS; exact hS
  have new1 : ∀ b u, H1 b = some u → G b = none → (upd (upd H1 D (.dK (stK o b1 b2 b3))) S (.dK [])) b = some u := fun b u e n => by
    have : b ≠ D := fun w => by rw [w, hG] at n; cases n
    exact s2 _ _ (by rw [upd_ne this]; exact e)
  have old1 : Same H (upd (upd H1 D (.dK (stK o b1 b2 b3))) S (.dK [])) := fun b u e => by
    have : b ≠ D := fun w => by rw [w, hD] at e; cases e
    exact s2 _ _ (by rw [upd_ne this]; exact s1 _ _ (sG _ _ e))
  have hD2 : (upd (upd H1 D (.dK (stK o b1 b2 b3))) S (.dK [])) D = some (.dK (stK o b1 b2 b3)) := s2 _ _ upd_same
  have hS2 : (upd (upd H1 D (.dK (stK o b1 b2 b3))) S (.dK [])) S = some (.dK []) := upd_same
  generalize upd (upd H1 D (.dK (stK o b1 b2 b3))) S (.dK []) = H2 at new1 old1 hD2 hS2
  refine hk _ _ (hv o b1 b2 b3 G H1 H2 _ pa sG new1 old1 fun z H3 s3 tz => ⟨.inr part, rfl, s3 _ _ hD2, s3 _ _ hS2, nDS, ?_⟩)
  refine q D o b1 b2 b3 z G H1 H2 H3 _ hD pa sG old1 (fun b u e n => ?_) tz (fun b u e n => ?_) (fun b u e => ?_) upd_same
  · have n1 : b ≠ D := fun w => by rw [w, hG] at n; cases n
    have n2 : b ≠ S := fun w => by rw [w, hS1] at e; cases e
    rw [upd_ne n1, upd_ne n2]; exact s3 _ _ (new1 _ _ e n)
  · have n1 : b ≠ D := fun w => by rw [w, hD2] at n; cases n
    have n2 : b ≠ S := fun w => by rw [w, hS2] at n; cases n
    rw [upd_ne n1, upd_ne n2]; exact e
  · have n1 : b ≠ D := fun w => by rw [w, hD] at e; cases e
    have n2 : b ≠ S := fun w => by rw [w] at e; rw [s1 _ _ (sG _ _ e)] at hS1; cases hS1
    rw [upd_ne n1, upd_ne n2]; exact s3 _ _ (old1 _ _ e)
/-- the simplest first part: a name that holds a state -/
theorem star_var {σ : L2.St} {H : Hp} {i : Nat} {a b1 b2 b3 : Addr} {o : Int} (h0 : σ[i]? = some (some (.ref a))) (ha : H a = some (.dK (stK o b1 b2 b3))) (D : Addr) (hD : H D = none) (R : VK)
    (k : ∀ a' o' c1 c2 c3 H1, Same (upd H D (.dK [])) H1 → H1 a' = some (.dK (stK o' c1 c2 c3)) → (o' = o ∧ c1 = b1 ∧ c2 = b2 ∧ c3 = b3) → R (.ref a') H1) : tVar i σ (upd H D (.dK [])) R :=
  ⟨_, h0, k a o b1 b2 b3 _ (Same.refl _) (same_new hD _ _ ha) ⟨rfl, rfl, rfl, rfl⟩⟩
theorem ok_withEntry (F : Fun K "_with_entry" "_with_entry" sWithEntry f fd) (GC : Def P wd K mg base CX0 "_changed" 1 ["table","name","value"] (spChanged K) fC fdC) : FnOk P wd K mg base CX0 2 f fd ["state","part","name","value"] (spWithEntry K) := by
  refine F.ok scWithEntry (fun vs H Q E h => ?_) (fun cdv A outer s H vs Q E hr h => ?_)
  · obtain ⟨H0, a, st, ed, y, z, rfl, _⟩ := h
    rfl
  · obtain ⟨H0, a, st, ed, y, z, rfl, s0, ⟨b1, b2, b3, ha, t1, t2, t3⟩, sm, he, q⟩ := h
    have hr1 : Room 1 _ := hr.mono (by decide)
    refine ⟨_, (pss_one (ps_ret (pe_dstar (pv 0) (pv 1) (pe_call GC.ok hr1 (by rfl) GC.mg GC.kp GC.bd .nil pass0 (pa_cons (pe_dget (hu_of hr) (pv 0) (pv 1) (fun _ _ => rfl)) (pa_cons (pv 2) (pa_cons (pv 3) pa_nil))))))), ?_⟩
    cases ed with
    | sp n v =>
      obtain ⟨rfl, hz⟩ := he
      refine star_gen (part := "spaces") (Pa := fun o' c1 c2 c3 _ _ => o' = st.o ∧ c1 = b1 ∧ c2 = b2 ∧ c3 = b3) (Tz := fun x H2 G => ∃ n', x = .ref n' ∧ H2 n' = none ∧ TabAt (kdK K) (fun _ => SpcAt K H0) eI G n' (setI st.sp n v)) (star_var rfl (s0 _ _ ha)) (fun G R k => ⟨_, rfl, k⟩) (fun o' c1 c2 c3 G H1 H2 R ⟨e0, e1, e2, e3⟩ sG nw s2 k => ?_) (fun D o' c1 c2 c3 x G H1 H2 H3 H' hD ⟨e0, e1, e2, e3⟩ sG s2 nw ⟨n', ex, hn', tz⟩ keep sH hDD => ?_)
      · have s02 := s0.trans s2
        refine ⟨_, rfl, _, rfl, a, .ref b1, rfl, .inl ⟨_, .inr "spaces", .inl (s02 _ _ ha), rfl, rfl⟩, _, rfl, _, rfl, ?_⟩
        exact .inl (ch_tab (kdK K) eI_inj okI (fun _ z => z) (t1.frz s02) sm.sp rfl hz fun D' H3 s3 hD' t' => k (.ref D') H3 s3 ⟨D', rfl, hD', t'⟩)
      · subst e0 e1 e2 e3 ex
        refine q D H' sH hD fun H'' s'' nw'' => ?_
        have fn : H n' = none := by
          cases e : H n' with
          | none => rfl
          | some u => rw [s2 _ _ e] at hn'; cases hn'
        have tN := tz.thaw (R := SpcAt K) (fun u e => nw'' _ _ (keep _ _ e hn') fn) (fun _ _ z => z.same s'')
        have hD2 := nw'' _ _ hDD hD
        exact ⟨n', _, _, hD2, tN, TabAt.same (fun _ _ z => z.same s'') s'' t2, TabAt.same (fun _ _ z => z.same s'') s'' t3⟩
    | sn n v =>
      obtain ⟨⟨yb, rfl, hyb⟩, hz⟩ := he
      refine star_gen (part := "snaps") (Pa := fun o' c1 c2 c3 _ _ => o' = st.o ∧ c1 = b1 ∧ c2 = b2 ∧ c3 = b3) (Tz := fun x H2 G => ∃ n', x = .ref n' ∧ H2 n' = none ∧ TabAt (kdT K) (fun _ => SnpAt K H0) eP G n' (setI st.sn n v)) (star_var rfl (s0 _ _ ha)) (fun G R k => ⟨_, rfl, k⟩) (fun o' c1 c2 c3 G H1 H2 R ⟨e0, e1, e2, e3⟩ sG nw s2 k => ?_) (fun D o' c1 c2 c3 x G H1 H2 H3 H' hD ⟨e0, e1, e2, e3⟩ sG s2 nw ⟨n', ex, hn', tz⟩ keep sH hDD => ?_)
      · have s02 := s0.trans s2
        refine ⟨_, rfl, _, rfl, a, .ref b2, rfl, .inl ⟨_, .inr "snaps", .inl (s02 _ _ ha), rfl, rfl⟩, _, rfl, _, rfl, ?_⟩
        exact .inr (ch_tab (kdT K) eP_inj okP (fun _ z => z) (t2.frz s02) sm.sn ⟨yb, rfl, s02 _ _ hyb⟩ hz fun D' H3 s3 hD' t' => k (.ref D') H3 s3 ⟨D', rfl, hD', t'⟩)
      · subst e0 e1 e2 e3 ex
        refine q D H' sH hD fun H'' s'' nw'' => ?_
        have fn : H n' = none := by
          cases e : H n' with
          | none => rfl
          | some u => rw [s2 _ _ e] at hn'; cases hn'
        have tN := tz.thaw (R := SnpAt K) (fun u e => nw'' _ _ (keep _ _ e hn') fn) (fun _ _ z => z.same s'')
        have hD2 := nw'' _ _ hDD hD
        exact ⟨_, n', _, hD2, TabAt.same (fun _ _ z => z.same s'') s'' t1, tN, TabAt.same (fun _ _ z => z.same s'') s'' t3⟩
    | mr n v =>
      obtain ⟨rfl, hz⟩ := he
      refine star_gen (part := "marks") (Pa := fun o' c1 c2 c3 _ _ => o' = st.o ∧ c1 = b1 ∧ c2 = b2 ∧ c3 = b3) (Tz := fun x H2 G => ∃ n', x = .ref n' ∧ H2 n' = none ∧ TabAt (kdK K) (fun _ => MrkAt K H0) eI G n' (setI st.mr n (some v))) (star_var rfl (s0 _ _ ha)) (fun G R k => ⟨_, rfl, k⟩) (fun o' c1 c2 c3 G H1 H2 R ⟨e0, e1, e2, e3⟩ sG nw s2 k => ?_) (fun D o' c1 c2 c3 x G H1 H2 H3 H' hD ⟨e0, e1, e2, e3⟩ sG s2 nw ⟨n', ex, hn', tz⟩ keep sH hDD => ?_)
      · have s02 := s0.trans s2
        refine ⟨_, rfl, _, rfl, a, .ref b3, rfl, .inl ⟨_, .inr "marks", .inl (s02 _ _ ha), rfl, rfl⟩, _, rfl, _, rfl, ?_⟩
        exact .inl (ch_tab (kdK K) eI_inj okI (fun _ z => z) (t3.frz s02) sm.mr rfl (show OptAt (fun _ => MrkAt K H0) H2 z (some v) from ⟨MrkAt.ref hz, hz⟩) fun D' H3 s3 hD' t' => k (.ref D') H3 s3 ⟨D', rfl, hD', t'⟩)
      · subst e0 e1 e2 e3 ex
        refine q D H' sH hD fun H'' s'' nw'' => ?_
        have fn : H n' = none := by
          cases e : H n' with
          | none => rfl
          | some u => rw [s2 _ _ e] at hn'; cases hn'
        have tN := tz.thaw (R := MrkAt K) (fun u e => nw'' _ _ (keep _ _ e hn') fn) (fun _ _ z => z.same s'')
        have hD2 := nw'' _ _ hDD hD
        exact ⟨_, _, n', hD2, TabAt.same (fun _ _ z => z.same s'') s'' t1, TabAt.same (fun _ _ z => z.same s'') s'' t2, tN⟩
end
end Sg

set_option Elab.async false
set_option linter.all false
set_option maxRecDepth 100000
set_option maxHeartbeats 4000000
namespace Sg
open PySem PySem.Spec PyProof.Rows L2
/-! ### _without_space -/
def goneS (n : Int) (st : Sta) : Sta := { st with sp := delI st.sp n, sn := st.sn.filter fun p => !decide (p.1.1 = n) }
def notOf (n : Int) : List Key → Bool
  | .inl a :: _ => !decide (a = n)
  | _ => true
theorem pr_filt {κ α β : Type} {R : V → β → Prop} {emb : α → κ} {f : κ → Bool} {g : α → Bool} (h : ∀ a, f (emb a) = g a) : ∀ {kvs : List (κ × V)} {l : List (α × β)}, Paired (fun (p : κ × V) (q : α × β) => p.1 = emb q.1 ∧ R p.2 q.2) kvs l → Paired (fun (p : κ × V) (q : α × β) => p.1 = emb q.1 ∧ R p.2 q.2) (kvs.filter fun p => f p.1) (l.filter fun q => g q.1)
  | _, _, .nil => .nil
  | p :: kvs, q :: l, .cons r t => by
    have ih := pr_filt (f := f) h t
    have e : f p.1 = g q.1 := by rw [r.1, h]
    by_cases c : g q.1 = true
    · have c' : f p.1 = true := by rw [e]; exact c
      simp only [List.filter_cons, c, c', if_true]; exact .cons r ih
    · have c' : ¬ f p.1 = true := by rw [e]; exact c
      simp only [List.filter_cons, c, c', if_false]; exact ih
theorem filt_nodup {α β : Type} {l : List (α × β)} {f : α × β → Bool} (nd : (l.map (·.1)).Nodup) : ((l.filter f).map (·.1)).Nodup := List.Nodup.sublist (List.Sublist.map _ List.filter_sublist) nd
def spWithoutSpace (K : PySem.W.Frag) : Sp := fun vs H Q _ => ∃ (H0 : Hp) (a : Addr) (st : Sta) (n : Int), vs = [.ref a, .int n] ∧ Same H0 H ∧ StAt K H0 a st ∧ SmallS 1000 st ∧
  ∀ D H', Same H H' → H D = none → (∀ H'', Same H0 H'' → New H H' H'' → StAt K H'' D (goneS n st)) → Q (.ref D) H'
theorem ltH {H G : Hp} {b : Addr} (s : Same H G) (h : G b = none) : H b = none := by
  cases e : H b with
  | none => rfl
  | some u => rw [s _ _ e] at h; cases h
section
variable {P : Program} {wd : World} {K : PySem.W.Frag} {mg : Str → Option Value} {base : Heap} {f fW : Addr} {fd fdW : FuncData}
theorem scWithoutSp : FnScope ["state", "namespace", "snaps", "left", "name"] ["state", "namespace"] (defScope sWithoutSpace) := ⟨rfl, rfl, rfl, by decide +kernel, rfl, by decide +kernel, by decide +kernel⟩
theorem ok_withoutSpace (F : Fun K "_without_space" "_without_space" sWithoutSpace f fd) (GW : Def P wd K mg base CX0 "_with_entry" 2 ["state","part","name","value"] (spWithEntry K) fW fdW) : FnOk P wd K mg base CX0 3 f fd ["state","namespace"] (spWithoutSpace K) := by
  refine F.ok scWithoutSp (fun vs H Q E h => ?_) (fun cdv A outer s H vs Q E hr h => ?_)
  · obtain ⟨H0, a, st, n, rfl, _⟩ := h
    rfl
  · obtain ⟨H0, a, st, n, rfl, s0, S0, sm, q⟩ := h
    have hr2 : Room 2 _ := hr.mono (by decide)
    refine ⟨_, (pss_cons (ps_set (i := 2) scWithoutSp.nd rfl (Or.inr rfl) (pe_dget (hu_of hr) (pv 0) pe_str (fun _ _ => rfl)))
      (pss_cons (ps_lock (ps_setDcP (i := 3) (own := [("name", 4)]) (g := gName 4) (tt := tTest (tOp rNe (tOp (rIxT K) (tVar 4) (tC (.int 0))) (tVar 1))) (tk := tVar 4) (tv := tDGet (tVar 2) (tVar 4)) (by rfl) (u0_of hr) scWithoutSp.nd rfl rfl (sw_dc rfl rfl rfl (by decide +kernel)) (pi_keys (pv 2)) (blkOk_by (own := [("name", 4)]) (N := ["state", "namespace", "snaps", "left", "name"]) (sc := defScope sWithoutSpace) (by decide +kernel)) ⟨fun _ _ _ _ _ => pg_name (i := 4) scWithoutSp.nd rfl (Or.inl rfl), fun _ _ _ _ _ => pts_one (by exact (pt_cmpR op_ne (pe_ix ix_tup (pv 4) pe_int (fun _ _ => rfl)) (pv 1) (nomark _))), fun _ _ _ _ _ => by exact (pv 4), fun _ _ _ _ _ => by exact (pe_dget (hu_of hr) (pv 2) (pv 4) (fun _ _ => rfl))⟩))
      (pss_one (ps_ret (pe_dstar (pe_call GW.ok hr2 (by rfl) GW.mg GW.kp GW.bd .nil pass0 (pa_cons (pv 0) (pa_cons pe_str (pa_cons (pv 1) (pa_cons pe_non pa_nil))))) pe_str (pv 3)))))), ?_⟩
    obtain ⟨b1, b2, b3, ha, t1, t2, t3⟩ := id S0
    refine ⟨_, rfl, a, .ref b2, rfl, .inl ⟨_, .inr "snaps", .inl (s0 _ _ ha), rfl, rfl⟩, ?_⟩
    obtain ⟨kvs, h2, pr, nd⟩ := id (t2.frz s0)
    have ndk := pr_nodup eP_inj (R := SnpAt K H0) pr nd
    have kl := Paired.length pr
    refine ⟨b2, .dT kvs, h2, True.intro, fun od => ?_⟩
    refine keepF_dc (kdT K) (notOf n) (show 4 < 5 by decide) (by decide) rfl upd_same ndk (by have := sm.sn; omega) (fun x k H' Q' hk hat sx k' => ?_) fun L H1' s1' hL hL1' => ?_
    · rw [pr_keys (R := SnpAt K H0) pr] at hk
      obtain ⟨p, hp, rfl⟩ := List.mem_map.mp hk
      obtain ⟨b, rfl, hb⟩ := hat
      refine ⟨_, rfl, b, _, _, _, rfl, rfl, SqT.of hb, atI_nat (j := 0) rfl, _, rfl, rfl, _, rfl, ?_⟩
      have e : decide (V.int p.1.1 = V.int n) = decide (p.1.1 = n) := by
        by_cases z : p.1.1 = n
        · rw [decide_eq_true z, decide_eq_true (show V.int _ = V.int n by rw [z])]
        · rw [decide_eq_false z, decide_eq_false (show ¬ V.int _ = V.int n from fun y => z (by injection y))]
      show Q' (!decide (V.int p.1.1 = V.int n)) H'
      rw [e]; exact k'
    · obtain ⟨nL, fL⟩ := lock_free hL
      refine ⟨s1' _ _ upd_same, ?_⟩
      have s1 : Same H (upd H1' b2 (.dT kvs)) := lock_same h2 rfl s1'
      have hL1 : (upd H1' b2 (.dT kvs)) L = some (.dT (kvs.filter fun p => notOf n p.1)) := by rw [upd_ne nL]; exact hL1'
      generalize upd H1' b2 (.dT kvs) = H1 at s1 hL1
      have s01 := s0.trans s1
      refine star_gen (part := "snaps") (Pa := fun o c1 c2 c3 G G1 => ∃ D', G1 D' = some (.dK (stK o c1 c2 c3)) ∧ G D' = none ∧ ∀ H'', Same H0 H'' → New G G1 H'' → StAt K H'' D' (edS (.sp n none) st)) (Tz := fun x _ _ => x = .ref L)
        (fun D hD R k => ?_) (fun G R k => k) (fun o c1 c2 c3 G G1 G2 R _ sG nw s2 k => ⟨_, rfl, k _ _ (Same.refl _) rfl⟩) (fun D o c1 c2 c3 x G G1 G2 G3 H' hD ⟨D', hD', gD', pa⟩ sG s2 nw ex keep sH hDD => ?_)
      · have sD := same_new (o := .dK []) hD
        refine ⟨_, rfl, _, rfl, H0, a, st, .sp n none, .int n, .non, rfl, s01.trans sD, S0, sm, ⟨rfl, rfl⟩, fun D' G1 s2 hD' all => ?_⟩
        obtain ⟨c1, c2, c3, hh, _⟩ := all G1 (s01.trans (sD.trans s2)) (fun _ _ e _ => e)
        exact k D' _ c1 c2 c3 G1 s2 hh ⟨D', hh, hD', all⟩
      · subst ex
        refine q D H' (s1.trans sH) (ltH s1 hD) fun H'' s'' nw'' => ?_
        obtain ⟨e1, e2, e3, hh, u1, u2, u3⟩ := pa H'' s'' fun b u e g => nw'' _ _ (nw _ _ e g) (ltH (s1.trans sG) g)
        have hh' := nw'' _ _ (nw _ _ hD' gD') (ltH (s1.trans sG) gD')
        rw [hh'] at hh
        have eq := Option.some.inj hh
        injection eq with eq
        simp only [stK, List.cons.injEq, Prod.mk.injEq, and_true, true_and, V.int.injEq, V.ref.injEq] at eq
        obtain ⟨eo, f1, f2, f3⟩ := eq
        subst eo f1 f2 f3
        refine ⟨c1, L, c3, nw'' _ _ hDD (ltH s1 hD), u1, ⟨_, nw'' _ _ (sH _ _ hL1) fL, Paired.imp2 (fun p q z => ⟨z.1, SnpAt.same z.2 s''⟩) (pr_filt (R := SnpAt K H0) (f := notOf n) (g := fun k => !decide (k.1 = n)) (fun _ => rfl) pr), filt_nodup nd⟩, u3⟩
end
end Sg

set_option Elab.async false
set_option linter.all false
set_option maxRecDepth 100000
set_option maxHeartbeats 4000000
namespace Sg
open PySem PySem.Spec PyProof.Rows L2
/-! ### what effects do to a state -/
def lookI {α β : Type} [DecidableEq α] (l : List (α × β)) (k : α) : Option β := (l.find? fun p => decide (p.1 = k)).map (·.2)
def insR (rg : List (Int × Int)) (h k : Int) : List (Int × Int) := (outR rg h ++ [(h, k)]).mergeSort fun a b => decide (a.1 ≤ b.1)
inductive Eff
  | host (h s c : Int) (an : PyData) | told (h : Int) (d : PyData) | space (n z : Int)
  | gone (n o : Int) | snap (n m : Int) (b : Option Int) | place (n p : Int) (v : Option Int) | key (n h : Int) (k : Option Int) | hold (n : Int) (hd : Option (Int × Str))
def oD : Option Int → PyData
  | none => .none
  | some i => .int i
def toEf : Eff → Ef
  | .host h s c an => ([.inr "host", .inl h], .tuple [.int s, .int c, an])
  | .told h d => ([.inr "told", .inl h], d)
  | .space n z => ([.inr "space", .inl n], .int z)
  | .gone n o => ([.inr "gone", .inl n], .int o)
  | .snap n m b => ([.inr "snap", .inl n, .inl m], oD b)
  | .place n p v => ([.inr "place", .inl n, .inl p], oD v)
  | .key n h k => ([.inr "key", .inl n, .inl h], oD k)
  | .hold n hd => ([.inr "hold", .inl n], holdD hd)
def effsB (o h : Int) : Bd → List Eff
  | .mark d => [.told h d]
  | .make n z => [.space n z]
  | .remove n => [.gone n o]
  | .write n p v => [.place n p (some v)]
  | .trim n p => [.place n p none]
  | .snap n => [.snap n o (some o)]
  | .drop n s => [.snap n s none]
  | .register n => [.key n h (some o)]
  | .leave n false => [.key n h none]
  | .leave n true => [.key n h none, .hold n none]
  | .reserve n w => [.hold n (some (h, w))]
  | .release n => [.hold n none]
  | .preempt n v none => [.key n v none]
  | .preempt n v (some w) => [.key n v none, .hold n (some (h, w))]
def effsR (r : Rc) : List Eff := .host r.h r.s r.c (answD (kindS r.b) r.o) :: effsB r.o r.h r.b
theorem effsR_ef (r : Rc) : effR r = (effsR r).map toEf := by
  unfold effR effsR effH
  rw [List.map_cons]
  congr 1
  cases r.b with
  | leave n b => cases b <;> rfl
  | preempt n v w => cases w <;> rfl
  | _ => rfl
def spaceOf : Eff → Option Int
  | .gone n _ => some n | .snap n _ _ => some n | .place n _ _ => some n | .key n _ _ => some n | .hold n _ => some n
  | _ => none
/-- the spaces' effects, the space being s -/
def within (s : Spc) : Eff → Sta → Sta
  | .gone n _, st => goneS n st
  | .snap n m b, st => { st with sn := setI st.sn (n, m) (b.map fun _ => s.cs) }
  | .place n p v, st => { st with sp := putI st.sp n { s with cs := setI s.cs p v } }
  | .key n h none, st => { st with sp := putI st.sp n { s with rg := outR s.rg h } }
  | .key n h (some k), st => { st with sp := putI st.sp n { s with rg := insR s.rg h k } }
  | .hold n hd, st => { st with sp := putI st.sp n { s with hd := hd } }
  | _, st => st
def toldOf (st : Sta) (h : Int) : PyData := match lookI st.mr h with
  | none => .none
  | some m => m.td
def afterE : Eff → Sta → Sta
  | .host h s c an, st => { st with mr := putI st.mr h ⟨s, c, an, toldOf st h⟩ }
  | .told h d, st => match lookI st.mr h with
    | none => st
    | some m => { st with mr := putI st.mr h { m with td := d } }
  | .space n z, st => { st with sp := putI st.sp n ⟨z, [], [], none⟩ }
  | e, st => match spaceOf e with
    | none => st
    | some n => match lookI st.sp n with
      | none => st
      | some s => within s e st
def afterR (st : Sta) (r : Rc) : Sta := (effsR r).foldl (fun s e => afterE e s) { st with o := r.o }
/-- what stands in every state: sizes, and each fence has a host once -/
structure StG (n : Nat) (st : Sta) : Prop where
  sm : SmallS n st
  rg : ∀ p ∈ st.sp, (p.2.rg.map (·.1)).Nodup ∧ p.2.rg.length ≤ n
theorem out_nodup {rg : List (Int × Int)} {h k : Int} (nd : (rg.map (·.1)).Nodup) : ((outR rg h ++ [(h, k)]).map (·.1)).Nodup := by
  rw [List.map_append, List.nodup_append]
  refine ⟨filt_nodup nd, by simp, fun a ha b hb e => ?_⟩
  obtain ⟨p, hp, rfl⟩ := List.mem_map.mp ha
  have := (List.mem_filter.mp hp).2
  simp at hb this
  exact this (e.trans hb)
theorem fst_inj {L : List (Int × Int)} (nd : (L.map (·.1)).Nodup) {x y : Int × Int} (hx : x ∈ L) (hy : y ∈ L) (e : x.1 = y.1) : x = y := by
  obtain ⟨i, hi⟩ := List.mem_iff_getElem?.mp hx
  obtain ⟨j, hj⟩ := List.mem_iff_getElem?.mp hy
  have h1 : (L.map (·.1))[i]? = some x.1 := by rw [List.getElem?_map, hi]; rfl
  have h2 : (L.map (·.1))[j]? = some x.1 := by rw [List.getElem?_map, hj, e]; rfl
  have li := (List.getElem?_eq_some_iff.mp h1).1
  have lj := (List.getElem?_eq_some_iff.mp h2).1
  have ee := (List.getElem?_eq_some_iff.mp h1).2.trans (List.getElem?_eq_some_iff.mp h2).2.symm
  have : i = j := by
    rcases Nat.lt_trichotomy i j with c | c | c
    · exact absurd ee ((List.pairwise_iff_getElem.mp nd) i j li lj c)
    · exact c
    · exact absurd ee.symm ((List.pairwise_iff_getElem.mp nd) j i lj li c)
  subst this
  rw [hi] at hj; exact Option.some.inj hj
theorem ins_perm {rg : List (Int × Int)} {h k : Int} : (insR rg h k).Perm (outR rg h ++ [(h, k)]) := List.mergeSort_perm _ _
theorem ins_eq {rg rs : List (Int × Int)} {h k : Int} (nd : (rg.map (·.1)).Nodup) (p : rs.Perm (outR rg h ++ [(h, k)])) (s : (rs.map (·.1)).Pairwise (· ≤ ·)) : rs = insR rg h k := by
  have nL := out_nodup (h := h) (k := k) nd
  refine List.Perm.eq_of_pairwise (le := fun a b : Int × Int => a.1 ≤ b.1) (fun x y hx hy h1 h2 => fst_inj nL (p.mem_iff.mp hx) (ins_perm.mem_iff.mp hy) (by omega)) (List.pairwise_map.mp s) ?_ (p.trans ins_perm.symm)
  have := List.pairwise_mergeSort (le := fun a b : Int × Int => decide (a.1 ≤ b.1)) (by intro a b c h1 h2; simp at *; omega) (by intro a b; simp; omega) (outR rg h ++ [(h, k)])
  exact this.imp fun h => of_decide_eq_true h
theorem ins_nodup {rg : List (Int × Int)} {h k : Int} (nd : (rg.map (·.1)).Nodup) : ((insR rg h k).map (·.1)).Nodup := ((ins_perm.map _).nodup_iff).mpr (out_nodup nd)
theorem out_len {rg : List (Int × Int)} {h : Int} : (outR rg h).length ≤ rg.length := List.length_filter_le _ _
theorem ins_len {rg : List (Int × Int)} {h k : Int} : (insR rg h k).length ≤ rg.length + 1 := by
  rw [ins_perm.length_eq, List.length_append]; have := out_len (rg := rg) (h := h); simp; omega
end Sg

set_option Elab.async false
set_option linter.all false
set_option maxRecDepth 100000
set_option maxHeartbeats 4000000
namespace Sg
open PySem PySem.Spec PyProof.Rows L2
/-! ### _after_effect_within -/
theorem lookI_nil {α β : Type} [DecidableEq α] {k : α} : lookI ([] : List (α × β)) k = none := rfl
theorem pr_look {κ α β : Type} [DecidableEq κ] [DecidableEq α] {R : V → β → Prop} {emb : α → κ} (he : ∀ a b, emb a = emb b → a = b) {k : α} : ∀ {kvs : List (κ × V)} {l : List (α × β)}, Paired (fun (p : κ × V) (q : α × β) => p.1 = emb q.1 ∧ R p.2 q.2) kvs l →
    (lookI l k = none ∧ valV kvs (emb k) = none) ∨ ∃ v z, lookI l k = some v ∧ valV kvs (emb k) = some z ∧ R z v
  | _, _, .nil => .inl ⟨rfl, rfl⟩
  | p :: kvs, q :: l, .cons r t => by
    by_cases c : q.1 = k
    · refine .inr ⟨q.2, p.2, ?_, valV_pos (r.1.trans (by rw [c])), r.2⟩
      unfold lookI
      rw [List.find?_cons_of_pos (by simp [c])]; rfl
    · have e1 : lookI (q :: l) k = lookI l k := by
        unfold lookI
        rw [List.find?_cons_of_neg (by simp [c])]
      have e2 : valV (p :: kvs) (emb k) = valV kvs (emb k) := valV_neg (fun e => c (he _ _ (r.1.symm.trans e)))
      rw [e1, e2]
      exact pr_look he t
theorem look_mem {α β : Type} [DecidableEq α] {l : List (α × β)} {k : α} {v : β} (h : lookI l k = some v) : (k, v) ∈ l := by
  unfold lookI at h
  cases e : l.find? fun p => decide (p.1 = k) with
  | none => rw [e] at h; cases h
  | some p =>
    rw [e] at h
    have h1 := List.mem_of_find?_eq_some e
    have h2 := List.find?_some e
    have : p = (k, v) := Prod.ext (of_decide_eq_true h2) (Option.some.inj h)
    rw [← this]; exact h1
/-- a topic in the heap, as effects have it -/
def TpAt (H : Hp) (t : Addr) (k : List Key) : Prop := H t = some (.tup (k.map kV))
def EfAt (K : PySem.W.Frag) (H : Hp) (t : Addr) (v : V) (e : Eff) : Prop := TpAt H t (toEf e).1 ∧ Dp K H v (toEf e).2
def hdOk (hd : Option (Int × Str)) : Prop := ∀ h w, hd = some (h, w) → PyData.strOk w = true
def efOk : Eff → Prop
  | .hold _ hd => hdOk hd
  | _ => True
def spWithin (K : PySem.W.Frag) : Sp := fun vs H Q _ => ∃ (a t : Addr) (v : V) (st : Sta) (e : Eff) (n : Int) (s : Spc), vs = [.ref a, .ref t, v] ∧ StAt K H a st ∧ StG 900 st ∧ EfAt K H t v e ∧ efOk e ∧ spaceOf e = some n ∧ lookI st.sp n = some s ∧
  ∀ D H', Same H H' → StAt K H' D (within s e st) → Q (.ref D) H'
theorem SmallS.mono {n m : Nat} {st : Sta} (h : SmallS n st) (l : n ≤ m) : SmallS m st := ⟨Nat.le_trans h.sp l, Nat.le_trans h.sn l, Nat.le_trans h.mr l, fun p hp => Nat.le_trans (h.cs p hp) l, fun p hp => Nat.le_trans (h.cn p hp) l⟩
theorem new_self {H H' : Hp} : New H H' H' := fun _ _ e _ => e
theorem hold_of {K : PySem.W.Frag} {H : Hp} {v : V} {hd : Option (Int × Str)} (h : Dp K H v (holdD hd)) (ok : hdOk hd) : HoldV K H v hd := by
  cases hd with
  | none => exact dp_none h
  | some p =>
    obtain ⟨a, w⟩ := p
    unfold holdD at h
    cases h with
    | tup hs hd' =>
      obtain ⟨x1, r1, rfl, e1, b1⟩ := dpAll_cons hd'
      obtain rfl := dp_int e1
      obtain ⟨x2, r2, rfl, e2, b2⟩ := dpAll_cons b1
      obtain rfl := dp_strv e2
      obtain rfl := dpAll_nil b2
      exact ⟨_, rfl, hs, ok a w rfl⟩
theorem od_at {K : PySem.W.Frag} {H : Hp} {v : V} {o : Option Int} (h : Dp K H v (oD o)) : (o = none ∧ v = .non) ∨ ∃ i, o = some i ∧ v = .int i := by
  cases o with
  | none => exact .inl ⟨rfl, dp_none h⟩
  | some i => exact .inr ⟨i, rfl, dp_int h⟩
section
variable {P : Program} {wd : World} {K : PySem.W.Frag} {mg : Str → Option Value} {base : Heap} {f fO fW fC fD fA fH : Addr} {fd fdO fdW fdC fdD fdA fdH : FuncData}
theorem scWithin : FnScope ["state", "topic", "value", "size", "cells", "fence", "namespace", "number", "place", "space", "host", "after"] ["state", "topic", "value"] (defScope sAfterWithin) := ⟨rfl, rfl, rfl, by decide +kernel, rfl, by decide +kernel, by decide +kernel⟩
theorem ok_within (F : Fun K "_after_effect_within" "_after_effect_within" sAfterWithin f fd) (GO : Def P wd K mg base CX0 "_without_space" 3 ["state","namespace"] (spWithoutSpace K) fO fdO) (GW : Def P wd K mg base CX0 "_with_entry" 2 ["state","part","name","value"] (spWithEntry K) fW fdW)
    (GC : Def P wd K mg base CX0 "_changed" 1 ["table","name","value"] (spChanged K) fC fdC) (GD : Def P wd K mg base CX0 "without_key" 1 ["fence","host"] (spWithoutKey K) fD fdD) (GA : Def P wd K mg base CX0 "with_key" 2 ["fence","host","key"] (spWithKey K) fA fdA) (GH : Def P wd K mg base CX0 "with_holder" 1 ["fence","reservation"] (spWithHolder K) fH fdH) :
    FnOk P wd K mg base CX0 4 f fd ["state","topic","value"] (spWithin K) := by
  refine F.ok scWithin (fun vs H Q E h => ?_) (fun cdv A outer s H vs Q E hr h => ?_)
  · obtain ⟨a, t, v, st, e, n, s, rfl, _⟩ := h
    rfl
  · obtain ⟨a, t, v, st, e, n, sp, rfl, SA, G, ⟨ht, hv⟩, eok, hn, hl, q⟩ := h
    have hr3 : Room 3 _ := hr.mono (by decide)
    have hr2 : Room 2 _ := hr.mono (by decide)
    have hr1 : Room 1 _ := hr.mono (by decide)
    refine ⟨_, (pss_cons (ps_asg (pe_dget (hu_of hr) (pe_dget (hu_of hr) (pv 0) pe_str (fun _ _ => rfl)) (pe_ix ix_tup (pv 1) pe_int (fun _ _ => rfl)) (fun _ _ => rfl)) (pg_tup (by rfl) (pgs_cons (pg_name (i := 3) scWithin.nd rfl (Or.inl rfl)) (pgs_cons (pg_name (i := 4) scWithin.nd rfl (Or.inl rfl)) (pgs_cons (pg_name (i := 5) scWithin.nd rfl (Or.inl rfl)) L2.pgs_nil)))))
      (pss_one (ps_match (pv 1) (pcs_cons scWithin.nd (mp_seq (n := 2) rfl (mps_cons mp_str (mps_cons (mp_cap (i := 6) rfl (Or.inl rfl)) mps_nil)))
        (pss_one (ps_ret (pe_call GO.ok hr3 (by rfl) GO.mg GO.kp GO.bd .nil pass0 (pa_cons (pv 0) (pa_cons (pv 6) pa_nil)))))
        (pcs_cons scWithin.nd (mp_seq (n := 3) rfl (mps_cons mp_str (mps_cons (mp_cap (i := 6) rfl (Or.inl rfl)) (mps_cons (mp_cap (i := 7) rfl (Or.inl rfl)) mps_nil))))
        (pss_one (ps_ret (pe_call GW.ok hr2 (by rfl) GW.mg GW.kp GW.bd .nil pass0 (pa_cons (pv 0) (pa_cons pe_str (pa_cons (pe_tup (pa_cons (pv 6) (pa_cons (pv 7) pa_nil))) (pa_cons (pe_ifExp (pt_cmpR op_isN (pv 2) pe_non (nomark _)) pe_non (pv 4)) pa_nil)))))))
        (pcs_cons scWithin.nd (mp_seq (n := 3) rfl (mps_cons mp_str (mps_cons (mp_cap (i := 6) rfl (Or.inl rfl)) (mps_cons (mp_cap (i := 8) rfl (Or.inl rfl)) mps_nil))))
        (pss_cons (ps_set (i := 9) scWithin.nd rfl (Or.inl rfl) (pe_tup (pa_cons (pv 3) (pa_cons (pe_call GC.ok hr1 (by rfl) GC.mg GC.kp GC.bd .nil pass0 (pa_cons (pv 4) (pa_cons (pv 8) (pa_cons (pv 2) pa_nil)))) (pa_cons (pv 5) pa_nil)))))
      (pss_one (ps_ret (pe_call GW.ok hr2 (by rfl) GW.mg GW.kp GW.bd .nil pass0 (pa_cons (pv 0) (pa_cons pe_str (pa_cons (pv 6) (pa_cons (pv 9) pa_nil))))))))
        (pcs_cons scWithin.nd (mp_seq (n := 3) rfl (mps_cons mp_str (mps_cons (mp_cap (i := 6) rfl (Or.inl rfl)) (mps_cons (mp_cap (i := 10) rfl (Or.inl rfl)) mps_nil))))
        (pss_cons (ps_set (i := 11) scWithin.nd rfl (Or.inl rfl) (pe_ifExp (pt_cmpR op_isN (pv 2) pe_non (nomark _)) (pe_call GD.ok hr1 (by rfl) GD.mg GD.kp GD.bd .nil pass0 (pa_cons (pv 5) (pa_cons (pv 10) pa_nil))) (pe_call GA.ok hr2 (by rfl) GA.mg GA.kp GA.bd .nil pass0 (pa_cons (pv 5) (pa_cons (pv 10) (pa_cons (pv 2) pa_nil))))))
      (pss_one (ps_ret (pe_call GW.ok hr2 (by rfl) GW.mg GW.kp GW.bd .nil pass0 (pa_cons (pv 0) (pa_cons pe_str (pa_cons (pv 6) (pa_cons (pe_tup (pa_cons (pv 3) (pa_cons (pv 4) (pa_cons (pv 11) pa_nil)))) pa_nil))))))))
        (pcs_cons scWithin.nd (mp_seq (n := 2) rfl (mps_cons mp_str (mps_cons (mp_cap (i := 6) rfl (Or.inl rfl)) mps_nil)))
        (pss_one (ps_ret (pe_call GW.ok hr2 (by rfl) GW.mg GW.kp GW.bd .nil pass0 (pa_cons (pv 0) (pa_cons pe_str (pa_cons (pv 6) (pa_cons (pe_tup (pa_cons (pv 3) (pa_cons (pv 4) (pa_cons (pe_call GH.ok hr1 (by rfl) GH.mg GH.kp GH.bd .nil pass0 (pa_cons (pv 5) (pa_cons (pv 2) pa_nil))) pa_nil)))) pa_nil)))))))
        pcs_nil)))))))), ?_⟩
    obtain ⟨b1, b2, b3, ha, t1, t2, t3⟩ := id SA
    obtain ⟨kvs, hb1, pr, nd⟩ := id t1
    have mem := look_mem hl
    obtain ⟨r1, r2⟩ := G.rg _ mem
    have sm : SmallS 1000 st := G.sm.mono (by decide)
    have csl : sp.cs.length ≤ 900 := G.sm.cs _ mem
    have r3 : sp.rg.length ≤ 900 := r2
    rcases pr_look (R := SpcAt K H) eI_inj (k := n) pr with ⟨e0, _⟩ | ⟨sp', z, e0, hz, az⟩
    · rw [hl] at e0; cases e0
    · rw [hl] at e0; cases e0
      obtain ⟨p, c, fv, rfl, hp, hc, hf⟩ := az
      have idx1 : ∀ w (r : List V), (H t = some (.tup (.str w :: .int n :: r)) → SqT K H t (.str w :: .int n :: r)) := fun _ _ h => SqT.of h
      cases e with
      | host _ _ _ _ => cases hn
      | told _ _ => cases hn
      | space _ _ => cases hn
      | gone n' o =>
        cases hn
        have hs : SqT K H t [.str "gone", .int n] := SqT.of ht
        refine ⟨_, rfl, a, .ref b1, rfl, .inl ⟨_, .inr "spaces", .inl ha, rfl, rfl⟩, _, rfl, t, _, _, _, rfl, rfl, hs, atI_nat (j := 1) rfl, b1, .ref p, rfl, .inl ⟨_, .inl n, .inl hb1, rfl, hz.symm⟩, p, _, rfl, hp, rfl, _, _, rfl, _, _, rfl, _, _, rfl, rfl, ?_⟩
        refine ⟨_, rfl, t, _, rfl, hs, fun _ => ⟨_, _, rfl, mS_hit rfl ?_⟩, fun z => absurd rfl z⟩
        refine ⟨_, _, rfl, ?_⟩
        refine ⟨_, rfl, _, rfl, H, a, st, n, rfl, Same.refl _, SA, sm, fun D H' s1 hD all => q D H' s1 (all H' s1 new_self)⟩
      | snap n' m b =>
        cases hn
        have hs : SqT K H t [.str "snap", .int n, .int m] := SqT.of ht
        refine ⟨_, rfl, a, .ref b1, rfl, .inl ⟨_, .inr "spaces", .inl ha, rfl, rfl⟩, _, rfl, t, _, _, _, rfl, rfl, hs, atI_nat (j := 1) rfl, b1, .ref p, rfl, .inl ⟨_, .inl n, .inl hb1, rfl, hz.symm⟩, p, _, rfl, hp, rfl, _, _, rfl, _, _, rfl, _, _, rfl, rfl, ?_⟩
        refine ⟨_, rfl, ?_⟩
        refine skip hs (by decide) ?_
        refine ⟨t, _, rfl, hs, fun _ => ⟨_, _, rfl, mS_hit rfl ?_⟩, fun z => absurd rfl z⟩
        refine ⟨_, _, rfl, _, _, rfl, ?_⟩
        refine ⟨_, rfl, _, rfl, _, rfl, by show 2 ≤ sizeLine; decide, fun k hk => ?_⟩
        have s1 := same_new (o := .tup [V.int n, V.int m]) hk
        refine ⟨_, rfl, rfl, _, rfl, ?_⟩
        have fin : ∀ z, OptAt (SnpAt K) (upd H k (.tup [V.int n, V.int m])) z (b.map fun _ => sp.cs) → spWithEntry K [.ref a, .str "snaps", .ref k, z] (upd H k (.tup [V.int n, V.int m])) Q E := fun z hz => by
          refine ⟨_, a, st, .sn (n, m) (b.map fun _ => sp.cs), .ref k, z, rfl, Same.refl _, SA.same s1, sm, ⟨⟨k, rfl, upd_same⟩, hz⟩, fun D H' s2 hD all => q D H' (s1.trans s2) (all H' s2 new_self)⟩
        rcases od_at hv with ⟨rfl, rfl⟩ | ⟨i, rfl, rfl⟩
        · refine chooseT rfl ?_
          exact fin _ rfl
        · refine chooseF rfl ?_
          exact ⟨_, rfl, fin _ (show OptAt (SnpAt K) _ (V.ref c) (some sp.cs) from ⟨(fun z => nomatch z), c, rfl, hc.same s1⟩)⟩
      | place n' pl x =>
        cases hn
        have hs : SqT K H t [.str "place", .int n, .int pl] := SqT.of ht
        refine ⟨_, rfl, a, .ref b1, rfl, .inl ⟨_, .inr "spaces", .inl ha, rfl, rfl⟩, _, rfl, t, _, _, _, rfl, rfl, hs, atI_nat (j := 1) rfl, b1, .ref p, rfl, .inl ⟨_, .inl n, .inl hb1, rfl, hz.symm⟩, p, _, rfl, hp, rfl, _, _, rfl, _, _, rfl, _, _, rfl, rfl, ?_⟩
        refine ⟨_, rfl, ?_⟩
        refine skip hs (by decide) ?_
        refine skip hs (by decide) ?_
        refine ⟨t, _, rfl, hs, fun _ => ⟨_, _, rfl, mS_hit rfl ?_⟩, fun z => absurd rfl z⟩
        refine ⟨_, _, rfl, _, _, rfl, ?_⟩
        have hx : OptAt (fun (_ : Hp) (x : V) (v : Int) => x = .int v) H v x := by
          rcases od_at hv with ⟨rfl, rfl⟩ | ⟨i, rfl, rfl⟩
          · exact rfl
          · exact ⟨fun z => (nomatch z), rfl⟩
        refine ⟨_, rfl, _, rfl, _, rfl, _, rfl, .inl (ch_tab (kdK K) eI_inj okI (fun _ z => z) hc (by omega) (k := pl) rfl hx fun c2 H1 s1 _ hc2 => ?_)⟩
        refine ⟨_, rfl, by show 3 ≤ sizeLine; decide, fun q2 hq2 => ?_⟩
        have s2 := s1.trans (same_new (o := .tup [V.int sp.z, V.ref c2, fv]) hq2)
        have hc3 : CellAt K (upd H1 q2 (.tup [V.int sp.z, V.ref c2, fv])) c2 (setI sp.cs pl x) := TabAt.same (fun _ _ z => z) (same_new hq2) hc2
        refine ⟨_, rfl, _, rfl, _, rfl, _, a, st, .sp n (some { sp with cs := setI sp.cs pl x }), .int n, .ref q2, rfl, Same.refl _, SA.same s2, sm, ⟨rfl, fun z => (nomatch z), q2, c2, fv, rfl, SqT.of upd_same, hc3, hf.tk (TK.of s2)⟩, fun D H' s3 hD all => q D H' (s2.trans s3) (all H' s3 new_self)⟩
      | key n' h k =>
        cases hn
        have hs : SqT K H t [.str "key", .int n, .int h] := SqT.of ht
        refine ⟨_, rfl, a, .ref b1, rfl, .inl ⟨_, .inr "spaces", .inl ha, rfl, rfl⟩, _, rfl, t, _, _, _, rfl, rfl, hs, atI_nat (j := 1) rfl, b1, .ref p, rfl, .inl ⟨_, .inl n, .inl hb1, rfl, hz.symm⟩, p, _, rfl, hp, rfl, _, _, rfl, _, _, rfl, _, _, rfl, rfl, ?_⟩
        refine ⟨_, rfl, ?_⟩
        refine skip hs (by decide) ?_
        refine skip hs (by decide) ?_
        refine skip hs (by decide) ?_
        refine ⟨t, _, rfl, hs, fun _ => ⟨_, _, rfl, mS_hit rfl ?_⟩, fun z => absurd rfl z⟩
        refine ⟨_, _, rfl, _, _, rfl, ?_⟩
        refine ⟨_, rfl, rfl, _, rfl, ?_⟩
        rcases od_at hv with ⟨rfl, rfl⟩ | ⟨i, rfl, rfl⟩
        · refine chooseT rfl ?_
          refine ⟨_, rfl, _, rfl, fv, h, sp.rg, sp.hd, rfl, hf, by omega, fun f2 H1 s1 hf2 => ?_⟩
          refine ⟨_, rfl, _, rfl, _, rfl, _, rfl, _, rfl, by show 3 ≤ sizeLine; decide, fun q2 hq2 => ?_⟩
          have s2 := s1.trans (same_new (o := .tup [V.int sp.z, V.ref c, V.ref f2]) hq2)
          have s3 := same_new (o := .tup [V.int sp.z, V.ref c, V.ref f2]) hq2
          exact ⟨_, a, st, .sp n (some { sp with rg := outR sp.rg h }), .int n, .ref q2, rfl, Same.refl _, SA.same s2, sm, ⟨rfl, fun z => (nomatch z), q2, c, .ref f2, rfl, SqT.of upd_same, hc.same s2, hf2.tk (TK.of s3)⟩, fun D H' s4 hD all => q D H' (s2.trans s4) (all H' s4 new_self)⟩
        · refine chooseF rfl ?_
          refine ⟨_, rfl, _, rfl, _, rfl, fv, h, i, sp.rg, sp.hd, rfl, hf, by omega, fun f2 rs' H1 s1 pm so hf2 => ?_⟩
          rw [ins_eq r1 pm so] at hf2
          refine ⟨_, rfl, _, rfl, _, rfl, _, rfl, _, rfl, by show 3 ≤ sizeLine; decide, fun q2 hq2 => ?_⟩
          have s2 := s1.trans (same_new (o := .tup [V.int sp.z, V.ref c, V.ref f2]) hq2)
          have s3 := same_new (o := .tup [V.int sp.z, V.ref c, V.ref f2]) hq2
          exact ⟨_, a, st, .sp n (some { sp with rg := insR sp.rg h i }), .int n, .ref q2, rfl, Same.refl _, SA.same s2, sm, ⟨rfl, fun z => (nomatch z), q2, c, .ref f2, rfl, SqT.of upd_same, hc.same s2, hf2.tk (TK.of s3)⟩, fun D H' s4 hD all => q D H' (s2.trans s4) (all H' s4 new_self)⟩
      | hold n' hd =>
        cases hn
        have hs : SqT K H t [.str "hold", .int n] := SqT.of ht
        refine ⟨_, rfl, a, .ref b1, rfl, .inl ⟨_, .inr "spaces", .inl ha, rfl, rfl⟩, _, rfl, t, _, _, _, rfl, rfl, hs, atI_nat (j := 1) rfl, b1, .ref p, rfl, .inl ⟨_, .inl n, .inl hb1, rfl, hz.symm⟩, p, _, rfl, hp, rfl, _, _, rfl, _, _, rfl, _, _, rfl, rfl, ?_⟩
        refine ⟨_, rfl, ?_⟩
        refine skip hs (by decide) ?_
        refine ⟨t, _, rfl, hs, fun z => (by simp at z), fun _ => ?_⟩
        refine ⟨t, _, rfl, hs, fun z => (by simp at z), fun _ => ?_⟩
        refine ⟨t, _, rfl, hs, fun z => (by simp at z), fun _ => ?_⟩
        refine ⟨t, _, rfl, hs, fun _ => ⟨_, _, rfl, mS_hit rfl ?_⟩, fun z => absurd rfl z⟩
        refine ⟨_, _, rfl, ?_⟩
        refine ⟨_, rfl, _, rfl, _, rfl, _, rfl, _, rfl, _, rfl, fv, v, sp.rg, sp.hd, hd, rfl, hf, hold_of hv eok, fun f2 H1 s1 hf2 => ?_⟩
        refine ⟨by show 3 ≤ sizeLine; decide, fun q2 hq2 => ?_⟩
        have s2 := s1.trans (same_new (o := .tup [V.int sp.z, V.ref c, V.ref f2]) hq2)
        have s3 := same_new (o := .tup [V.int sp.z, V.ref c, V.ref f2]) hq2
        exact ⟨_, a, st, .sp n (some { sp with hd := hd }), .int n, .ref q2, rfl, Same.refl _, SA.same s2, sm, ⟨rfl, fun z => (nomatch z), q2, c, .ref f2, rfl, SqT.of upd_same, hc.same s2, hf2.tk (TK.of s3)⟩, fun D H' s4 hD all => q D H' (s2.trans s4) (all H' s4 new_self)⟩
end
end Sg

set_option Elab.async false
set_option linter.all false
set_option maxRecDepth 100000
set_option maxHeartbeats 4000000
namespace Sg
open PySem PySem.Spec PyProof.Rows L2
/-! ### _after_effect -/
def spAfterEff (K : PySem.W.Frag) : Sp := fun vs H Q _ => ∃ (a t : Addr) (v : V) (st : Sta) (e : Eff), vs = [.ref a, .ref t, v] ∧ StAt K H a st ∧ StG 900 st ∧ EfAt K H t v e ∧ efOk e ∧ (∀ h d, e = .told h d → ∃ m, lookI st.mr h = some m) ∧
  ∀ D H', Same H H' → StAt K H' D (afterE e st) → Q (.ref D) H'
theorem after_told {st : Sta} {k : Int} {m : Mrk} {d : PyData} (h : lookI st.mr k = some m) : afterE (.told k d) st = edS (.mr k { m with td := d }) st := by
  simp only [afterE, h]; rfl
theorem after_in {st : Sta} {e : Eff} {n : Int} (hs : spaceOf e = some n) : afterE e st = match lookI st.sp n with | none => st | some s => within s e st := by
  cases e <;> first
    | (cases hs; rfl)
    | cases hs
section
variable {P : Program} {wd : World} {K : PySem.W.Frag} {mg : Str → Option Value} {base : Heap} {f fW fI aNF : Addr} {fd fdW fdI : FuncData}
theorem scAfter : FnScope ["state", "topic", "value", "host", "_", "told", "session", "counter", "answer", "namespace"] ["state", "topic", "value"] (defScope sAfterEff) := ⟨rfl, rfl, rfl, by decide +kernel, rfl, by decide +kernel, by decide +kernel⟩
theorem ok_afterEff (F : Fun K "_after_effect" "_after_effect" sAfterEff f fd) (hNF : mg "NO_FENCE" = some (.ref aNF)) (tNF : ∀ H, FenceAt K H (.ref aNF) [] none) (GW : Def P wd K mg base CX0 "_with_entry" 2 ["state","part","name","value"] (spWithEntry K) fW fdW)
    (GI : Def P wd K mg base CX0 "_after_effect_within" 4 ["state","topic","value"] (spWithin K) fI fdI) : FnOk P wd K mg base CX0 5 f fd ["state","topic","value"] (spAfterEff K) := by
  refine F.ok scAfter (fun vs H Q E h => ?_) (fun cdv A outer s H vs Q E hr h => ?_)
  · obtain ⟨a, t, v, st, e, rfl, _⟩ := h
    rfl
  · obtain ⟨a, t, v, st, e, rfl, SA, G, ⟨ht, hv⟩, eok, told, q⟩ := h
    have hr4 : Room 4 _ := hr.mono (by decide)
    have hr2 : Room 2 _ := hr.mono (by decide)
    refine ⟨_, (pss_cons (ps_match (pv 1) (pcs_cons scAfter.nd (mp_seq (n := 2) rfl (mps_cons mp_str (mps_cons (mp_cap (i := 3) rfl (Or.inl rfl)) mps_nil)))
        (pss_cons (ps_asg (pe_dget2 (hu_of hr) (pe_dget (hu_of hr) (pv 0) pe_str (fun _ _ => rfl)) (pv 3) (pe_tup (pa_cons pe_int (pa_cons pe_int (pa_cons pe_non (pa_cons pe_non pa_nil))))) ⟨rfl, rfl, rfl, rfl⟩) (pg_tup (by rfl) (pgs_cons (pg_name (i := 4) scAfter.nd rfl (Or.inl rfl)) (pgs_cons (pg_name (i := 4) scAfter.nd rfl (Or.inl rfl)) (pgs_cons (pg_name (i := 4) scAfter.nd rfl (Or.inl rfl)) (pgs_cons (pg_name (i := 5) scAfter.nd rfl (Or.inl rfl)) L2.pgs_nil))))))
      (pss_one (ps_ret (pe_call GW.ok hr2 (by rfl) GW.mg GW.kp GW.bd .nil pass0 (pa_cons (pv 0) (pa_cons pe_str (pa_cons (pv 3) (pa_cons (pe_tup (StX.pa_star (pv 2) (pa_cons (pv 5) pa_nil))) pa_nil))))))))
        (pcs_cons scAfter.nd (mp_seq (n := 2) rfl (mps_cons mp_str (mps_cons (mp_cap (i := 3) rfl (Or.inl rfl)) mps_nil)))
        (pss_cons (ps_asg (pe_dget (hu_of hr) (pe_dget (hu_of hr) (pv 0) pe_str (fun _ _ => rfl)) (pv 3) (fun _ _ => rfl)) (pg_tup (by rfl) (pgs_cons (pg_name (i := 6) scAfter.nd rfl (Or.inl rfl)) (pgs_cons (pg_name (i := 7) scAfter.nd rfl (Or.inl rfl)) (pgs_cons (pg_name (i := 8) scAfter.nd rfl (Or.inl rfl)) (pgs_cons (pg_name (i := 4) scAfter.nd rfl (Or.inl rfl)) L2.pgs_nil))))))
      (pss_one (ps_ret (pe_call GW.ok hr2 (by rfl) GW.mg GW.kp GW.bd .nil pass0 (pa_cons (pv 0) (pa_cons pe_str (pa_cons (pv 3) (pa_cons (pe_tup (pa_cons (pv 6) (pa_cons (pv 7) (pa_cons (pv 8) (pa_cons (pv 2) pa_nil))))) pa_nil))))))))
        (pcs_cons scAfter.nd (mp_seq (n := 2) rfl (mps_cons mp_str (mps_cons (mp_cap (i := 9) rfl (Or.inl rfl)) mps_nil)))
        (pss_one (ps_ret (pe_call GW.ok hr2 (by rfl) GW.mg GW.kp GW.bd .nil pass0 (pa_cons (pv 0) (pa_cons pe_str (pa_cons (pv 9) (pa_cons (pe_tup (pa_cons (pv 2) (pa_cons pe_dnewK (pa_cons (pe_glob (v := .ref aNF) (by rfl) hNF rfl) pa_nil)))) pa_nil)))))))
        pcs_nil))))
      (pss_cons (ps_if (pt_cmp (pc_dnotin (hu_of hr) (pe_ix ix_tup (pv 1) pe_int (fun _ _ => rfl)) (pe_dget (hu_of hr) (pv 0) pe_str (fun _ _ => rfl))))
      (pss_one (ps_ret (pv 0))) pss_nil)
      (pss_one (ps_ret (pe_call GI.ok hr4 (by rfl) GI.mg GI.kp GI.bd .nil pass0 (pa_cons (pv 0) (pa_cons (pv 1) (pa_cons (pv 2) pa_nil)))))))), ?_⟩
    obtain ⟨b1, b2, b3, ha, t1, t2, t3⟩ := id SA
    have sm : SmallS 1000 st := G.sm.mono (by decide)
    refine ⟨_, rfl, ?_⟩
    cases e with
    | host h s' c an =>
      have hs : SqT K H t [.str "host", .int h] := SqT.of ht
      refine ⟨t, _, rfl, hs, fun _ => ⟨_, _, rfl, mS_hit rfl ?_⟩, fun z => absurd rfl z⟩
      refine ⟨_, _, rfl, ?_⟩
      obtain ⟨kvs, hb3, pr, nd⟩ := id t3
      refine ⟨_, rfl, a, .ref b3, rfl, .inl ⟨_, .inr "marks", .inl ha, rfl, rfl⟩, b3, rfl, .inl ⟨kvs, .inl hb3⟩, _, rfl, by show 4 ≤ sizeLine; decide, fun d hd => ?_⟩
      have s1 := same_new (o := .tup [V.int 0, V.int 0, V.non, V.non]) hd
      have hd1 : (upd H d (.tup [V.int 0, V.int 0, V.non, V.non])) d = some (.tup [V.int 0, V.int 0, V.non, V.non]) := upd_same
      generalize upd H d (.tup [V.int 0, V.int 0, V.non, V.non]) = H1 at s1 hd1
      have found : ∃ o p x1 x2 x3 x4, DGet H1 b3 (.int h) o ∧ o.getD (.ref d) = .ref p ∧ SqT K H1 p [x1, x2, x3, x4] ∧ Dp K H1 x4 (toldOf st h) := by
        rcases pr_look (R := MrkAt K H) eI_inj (k := h) pr with ⟨e0, hz⟩ | ⟨m, z, e0, hz, az⟩
        · refine ⟨none, d, _, _, _, _, .inl ⟨_, .inl h, .inl (s1 _ _ hb3), rfl, hz.symm⟩, rfl, SqT.of hd1, ?_⟩
          unfold toldOf; rw [e0]; exact .non
        · unfold MrkAt markD at az
          cases az with
          | tup hp hd =>
            obtain ⟨x1, r1, rfl, e1, c1⟩ := dpAll_cons hd
            obtain ⟨x2, r2, rfl, e2, c2⟩ := dpAll_cons c1
            obtain ⟨x3, r3, rfl, e3, c3⟩ := dpAll_cons c2
            obtain ⟨x4, r4, rfl, e4, c4⟩ := dpAll_cons c3
            obtain rfl := dpAll_nil c4
            refine ⟨some _, _, _, _, _, _, .inl ⟨_, .inl h, .inl (s1 _ _ hb3), rfl, hz.symm⟩, rfl, SqT_same s1 hp, ?_⟩
            unfold toldOf; rw [e0]; exact dp_same s1 _ _ e4
      obtain ⟨o, p, x1, x2, x3, x4, hg, ho, hp, h4⟩ := found
      refine ⟨o, hg, ?_⟩
      rw [ho]
      refine ⟨p, _, rfl, hp, rfl, _, _, rfl, _, _, rfl, _, _, rfl, _, _, rfl, rfl, ?_⟩
      cases hv with
      | tup hq hqd =>
        obtain ⟨y1, r1, rfl, e1, c1⟩ := dpAll_cons hqd
        obtain rfl := dp_int e1
        obtain ⟨y2, r2, rfl, e2, c2⟩ := dpAll_cons c1
        obtain rfl := dp_int e2
        obtain ⟨y3, r3, rfl, e3, c3⟩ := dpAll_cons c2
        obtain rfl := dpAll_nil c3
        refine ⟨_, rfl, _, rfl, _, rfl, _, _, rfl, .inl (SqT_same s1 hq), _, rfl, by show 4 ≤ sizeLine; decide, fun q2 hq2 => ?_⟩
        have s2 := same_new (o := .tup [V.int s', V.int c, y3, x4]) hq2
        have s12 := s1.trans s2
        have nm : MrkAt K (upd H1 q2 (.tup [V.int s', V.int c, y3, x4])) (.ref q2) ⟨s', c, an, toldOf st h⟩ := .tup (SqT.of upd_same) (.cons (.int _) (.cons (.int _) (.cons (dp_same s12 _ _ e3) (.cons (dp_same s2 _ _ h4) .nil))))
        exact ⟨_, a, st, .mr h ⟨s', c, an, toldOf st h⟩, .int h, .ref q2, rfl, Same.refl _, SA.same s12, sm, ⟨rfl, nm⟩, fun D H' s3 hD all => q D H' (s12.trans s3) (all H' s3 new_self)⟩
    | told h d =>
      have hs : SqT K H t [.str "told", .int h] := SqT.of ht
      refine skip hs (by decide) ?_
      refine ⟨t, _, rfl, hs, fun _ => ⟨_, _, rfl, mS_hit rfl ?_⟩, fun z => absurd rfl z⟩
      refine ⟨_, _, rfl, ?_⟩
      obtain ⟨m, hm⟩ := told h d rfl
      obtain ⟨kvs, hb3, pr, nd⟩ := id t3
      rcases pr_look (R := MrkAt K H) eI_inj (k := h) pr with ⟨e0, _⟩ | ⟨m', z, e0, hz, az⟩
      · rw [hm] at e0; cases e0
      · rw [hm] at e0; cases e0
        unfold MrkAt markD at az
        cases az with
        | tup hp hd =>
          obtain ⟨x1, r1, rfl, e1, c1⟩ := dpAll_cons hd
          obtain rfl := dp_int e1
          obtain ⟨x2, r2, rfl, e2, c2⟩ := dpAll_cons c1
          obtain rfl := dp_int e2
          obtain ⟨x3, r3, rfl, e3, c3⟩ := dpAll_cons c2
          obtain ⟨x4, r4, rfl, e4, c4⟩ := dpAll_cons c3
          obtain rfl := dpAll_nil c4
          refine ⟨_, rfl, a, .ref b3, rfl, .inl ⟨_, .inr "marks", .inl ha, rfl, rfl⟩, _, rfl, b3, _, rfl, .inl ⟨_, .inl h, .inl hb3, rfl, hz.symm⟩, _, _, rfl, hp, rfl, _, _, rfl, _, _, rfl, _, _, rfl, _, _, rfl, rfl, ?_⟩
          refine ⟨_, rfl, _, rfl, _, rfl, _, rfl, _, rfl, _, rfl, by show 4 ≤ sizeLine; decide, fun q2 hq2 => ?_⟩
          have s2 := same_new (o := .tup [V.int m.s, V.int m.c, x3, v]) hq2
          have nm : MrkAt K (upd H q2 (.tup [V.int m.s, V.int m.c, x3, v])) (.ref q2) { m with td := d } := .tup (SqT.of upd_same) (.cons (.int _) (.cons (.int _) (.cons (dp_same s2 _ _ e3) (.cons (dp_same s2 _ _ hv) .nil))))
          refine ⟨_, a, st, .mr h { m with td := d }, .int h, .ref q2, rfl, Same.refl _, SA.same s2, sm, ⟨rfl, nm⟩, fun D H' s3 hD all => q D H' (s2.trans s3) ?_⟩
          rw [after_told hm]; exact all H' s3 new_self
    | space n z =>
      have hs : SqT K H t [.str "space", .int n] := SqT.of ht
      refine skip hs (by decide) ?_
      refine skip hs (by decide) ?_
      refine ⟨t, _, rfl, hs, fun _ => ⟨_, _, rfl, mS_hit rfl ?_⟩, fun z => absurd rfl z⟩
      refine ⟨_, _, rfl, ?_⟩
      obtain rfl := dp_int hv
      refine ⟨_, rfl, _, rfl, _, rfl, fun D0 hD0 => ?_⟩
      have s1 := same_new (o := .dK []) hD0
      have hD1 : (upd H D0 (.dK [])) D0 = some (.dK []) := upd_same
      generalize upd H D0 (.dK []) = H1 at s1 hD1
      refine ⟨by show 3 ≤ sizeLine; decide, fun q2 hq2 => ?_⟩
      have s2 := same_new (o := .tup [V.int z, V.ref D0, V.ref aNF]) hq2
      have s12 := s1.trans s2
      exact ⟨_, a, st, .sp n (some ⟨z, [], [], none⟩), .int n, .ref q2, rfl, Same.refl _, SA.same s12, sm, ⟨rfl, fun z => (nomatch z), q2, D0, .ref aNF, rfl, SqT.of upd_same, ⟨[], s2 _ _ hD1, .nil, List.nodup_nil⟩, tNF _⟩, fun D H' s3 hD all => q D H' (s12.trans s3) (all H' s3 new_self)⟩
    | gone n o =>
      have hs : SqT K H t [.str "gone", .int n] := SqT.of ht
      refine skip hs (by decide) ?_
      refine skip hs (by decide) ?_
      refine skip hs (by decide) ?_
      obtain ⟨kvs, hb1, pr, nd⟩ := id t1
      rcases pr_look (R := SpcAt K H) eI_inj (k := n) pr with ⟨e0, hz⟩ | ⟨sp, z, e0, hz, az⟩
      · refine ⟨_, rfl, t, _, _, _, rfl, rfl, hs, atI_nat (j := 1) rfl, _, rfl, a, .ref b1, rfl, .inl ⟨_, .inr "spaces", .inl ha, rfl, rfl⟩, b1, none, rfl, .inl ⟨_, .inl n, .inl hb1, rfl, hz.symm⟩, _, rfl, ?_⟩
        refine ⟨_, rfl, q a H (Same.refl _) ?_⟩
        rw [after_in (n := n) rfl, e0]; exact SA
      · refine ⟨_, rfl, t, _, _, _, rfl, rfl, hs, atI_nat (j := 1) rfl, _, rfl, a, .ref b1, rfl, .inl ⟨_, .inr "spaces", .inl ha, rfl, rfl⟩, b1, some z, rfl, .inl ⟨_, .inl n, .inl hb1, rfl, hz.symm⟩, _, rfl, ?_⟩
        refine ⟨_, rfl, _, rfl, _, rfl, a, t, v, st, _, n, sp, rfl, SA, G, ⟨ht, hv⟩, eok, rfl, e0, fun D H' s1 sa => q D H' s1 ?_⟩
        rw [after_in (n := n) rfl, e0]; exact sa
    | snap n m b =>
      have hs : SqT K H t [.str "snap", .int n, .int m] := SqT.of ht
      refine skip hs (by decide) ?_
      refine skip hs (by decide) ?_
      refine skip hs (by decide) ?_
      obtain ⟨kvs, hb1, pr, nd⟩ := id t1
      rcases pr_look (R := SpcAt K H) eI_inj (k := n) pr with ⟨e0, hz⟩ | ⟨sp, z, e0, hz, az⟩
      · refine ⟨_, rfl, t, _, _, _, rfl, rfl, hs, atI_nat (j := 1) rfl, _, rfl, a, .ref b1, rfl, .inl ⟨_, .inr "spaces", .inl ha, rfl, rfl⟩, b1, none, rfl, .inl ⟨_, .inl n, .inl hb1, rfl, hz.symm⟩, _, rfl, ?_⟩
        refine ⟨_, rfl, q a H (Same.refl _) ?_⟩
        rw [after_in (n := n) rfl, e0]; exact SA
      · refine ⟨_, rfl, t, _, _, _, rfl, rfl, hs, atI_nat (j := 1) rfl, _, rfl, a, .ref b1, rfl, .inl ⟨_, .inr "spaces", .inl ha, rfl, rfl⟩, b1, some z, rfl, .inl ⟨_, .inl n, .inl hb1, rfl, hz.symm⟩, _, rfl, ?_⟩
        refine ⟨_, rfl, _, rfl, _, rfl, a, t, v, st, _, n, sp, rfl, SA, G, ⟨ht, hv⟩, eok, rfl, e0, fun D H' s1 sa => q D H' s1 ?_⟩
        rw [after_in (n := n) rfl, e0]; exact sa
    | place n pl x =>
      have hs : SqT K H t [.str "place", .int n, .int pl] := SqT.of ht
      refine skip hs (by decide) ?_
      refine skip hs (by decide) ?_
      refine skip hs (by decide) ?_
      obtain ⟨kvs, hb1, pr, nd⟩ := id t1
      rcases pr_look (R := SpcAt K H) eI_inj (k := n) pr with ⟨e0, hz⟩ | ⟨sp, z, e0, hz, az⟩
      · refine ⟨_, rfl, t, _, _, _, rfl, rfl, hs, atI_nat (j := 1) rfl, _, rfl, a, .ref b1, rfl, .inl ⟨_, .inr "spaces", .inl ha, rfl, rfl⟩, b1, none, rfl, .inl ⟨_, .inl n, .inl hb1, rfl, hz.symm⟩, _, rfl, ?_⟩
        refine ⟨_, rfl, q a H (Same.refl _) ?_⟩
        rw [after_in (n := n) rfl, e0]; exact SA
      · refine ⟨_, rfl, t, _, _, _, rfl, rfl, hs, atI_nat (j := 1) rfl, _, rfl, a, .ref b1, rfl, .inl ⟨_, .inr "spaces", .inl ha, rfl, rfl⟩, b1, some z, rfl, .inl ⟨_, .inl n, .inl hb1, rfl, hz.symm⟩, _, rfl, ?_⟩
        refine ⟨_, rfl, _, rfl, _, rfl, a, t, v, st, _, n, sp, rfl, SA, G, ⟨ht, hv⟩, eok, rfl, e0, fun D H' s1 sa => q D H' s1 ?_⟩
        rw [after_in (n := n) rfl, e0]; exact sa
    | key n h k =>
      have hs : SqT K H t [.str "key", .int n, .int h] := SqT.of ht
      refine skip hs (by decide) ?_
      refine skip hs (by decide) ?_
      refine skip hs (by decide) ?_
      obtain ⟨kvs, hb1, pr, nd⟩ := id t1
      rcases pr_look (R := SpcAt K H) eI_inj (k := n) pr with ⟨e0, hz⟩ | ⟨sp, z, e0, hz, az⟩
      · refine ⟨_, rfl, t, _, _, _, rfl, rfl, hs, atI_nat (j := 1) rfl, _, rfl, a, .ref b1, rfl, .inl ⟨_, .inr "spaces", .inl ha, rfl, rfl⟩, b1, none, rfl, .inl ⟨_, .inl n, .inl hb1, rfl, hz.symm⟩, _, rfl, ?_⟩
        refine ⟨_, rfl, q a H (Same.refl _) ?_⟩
        rw [after_in (n := n) rfl, e0]; exact SA
      · refine ⟨_, rfl, t, _, _, _, rfl, rfl, hs, atI_nat (j := 1) rfl, _, rfl, a, .ref b1, rfl, .inl ⟨_, .inr "spaces", .inl ha, rfl, rfl⟩, b1, some z, rfl, .inl ⟨_, .inl n, .inl hb1, rfl, hz.symm⟩, _, rfl, ?_⟩
        refine ⟨_, rfl, _, rfl, _, rfl, a, t, v, st, _, n, sp, rfl, SA, G, ⟨ht, hv⟩, eok, rfl, e0, fun D H' s1 sa => q D H' s1 ?_⟩
        rw [after_in (n := n) rfl, e0]; exact sa
    | hold n hd =>
      have hs : SqT K H t [.str "hold", .int n] := SqT.of ht
      refine skip hs (by decide) ?_
      refine skip hs (by decide) ?_
      refine skip hs (by decide) ?_
      obtain ⟨kvs, hb1, pr, nd⟩ := id t1
      rcases pr_look (R := SpcAt K H) eI_inj (k := n) pr with ⟨e0, hz⟩ | ⟨sp, z, e0, hz, az⟩
      · refine ⟨_, rfl, t, _, _, _, rfl, rfl, hs, atI_nat (j := 1) rfl, _, rfl, a, .ref b1, rfl, .inl ⟨_, .inr "spaces", .inl ha, rfl, rfl⟩, b1, none, rfl, .inl ⟨_, .inl n, .inl hb1, rfl, hz.symm⟩, _, rfl, ?_⟩
        refine ⟨_, rfl, q a H (Same.refl _) ?_⟩
        rw [after_in (n := n) rfl, e0]; exact SA
      · refine ⟨_, rfl, t, _, _, _, rfl, rfl, hs, atI_nat (j := 1) rfl, _, rfl, a, .ref b1, rfl, .inl ⟨_, .inr "spaces", .inl ha, rfl, rfl⟩, b1, some z, rfl, .inl ⟨_, .inl n, .inl hb1, rfl, hz.symm⟩, _, rfl, ?_⟩
        refine ⟨_, rfl, _, rfl, _, rfl, a, t, v, st, _, n, sp, rfl, SA, G, ⟨ht, hv⟩, eok, rfl, e0, fun D H' s1 sa => q D H' s1 ?_⟩
        rw [after_in (n := n) rfl, e0]; exact sa
end
end Sg

set_option Elab.async false
set_option linter.all false
set_option maxRecDepth 100000
set_option maxHeartbeats 4000000
namespace Sg
open PySem PySem.Spec PyProof.Rows L2
/-! ### what grows with an effect -/
theorem mem_del {α β : Type} [DecidableEq α] {l : List (α × β)} {k : α} {p : α × β} (h : p ∈ delI l k) : p ∈ l := (List.mem_filter.mp h).1
theorem mem_put {α β : Type} [DecidableEq α] {l : List (α × β)} {k : α} {v : β} {p : α × β} (h : p ∈ putI l k v) : p ∈ l ∨ p = (k, v) := by
  rcases List.mem_append.mp h with h | h
  · exact .inl (mem_del h)
  · exact .inr (List.mem_singleton.mp h)
theorem mem_set' {α β : Type} [DecidableEq α] {l : List (α × β)} {k : α} {v : Option β} {p : α × β} (h : p ∈ setI l k v) : p ∈ l ∨ ∃ w, v = some w ∧ p = (k, w) := by
  cases v with
  | none => exact .inl (mem_del h)
  | some v => exact (mem_put h).imp id fun e => ⟨v, rfl, e⟩
theorem StG.mono {n m : Nat} {st : Sta} (h : StG n st) (l : n ≤ m) : StG m st := ⟨h.sm.mono l, fun p hp => ⟨(h.rg p hp).1, Nat.le_trans (h.rg p hp).2 l⟩⟩
theorem StG.order {n : Nat} {st : Sta} {o : Int} (h : StG n st) : StG n { st with o := o } := ⟨⟨h.sm.sp, h.sm.sn, h.sm.mr, h.sm.cs, h.sm.cn⟩, h.rg⟩
theorem StG.marks {n : Nat} {st : Sta} {k : Int} {m : Mrk} (h : StG n st) : StG (n + 1) { st with mr := putI st.mr k m } := by
  have h' := h.mono (Nat.le_succ n)
  exact ⟨⟨h'.sm.sp, h'.sm.sn, Nat.le_trans (set_len (v := some m)) (Nat.succ_le_succ h.sm.mr), h'.sm.cs, h'.sm.cn⟩, h'.rg⟩
theorem StG.space {n : Nat} {st : Sta} {k : Int} {s : Spc} (h : StG n st) (h1 : s.cs.length ≤ n + 1) (h2 : (s.rg.map (·.1)).Nodup) (h3 : s.rg.length ≤ n + 1) : StG (n + 1) { st with sp := putI st.sp k s } := by
  have h' := h.mono (Nat.le_succ n)
  refine ⟨⟨Nat.le_trans (set_len (v := some s)) (Nat.succ_le_succ h.sm.sp), h'.sm.sn, h'.sm.mr, fun p hp => ?_, h'.sm.cn⟩, fun p hp => ?_⟩
  · rcases mem_put hp with hp | rfl
    · exact h'.sm.cs p hp
    · exact h1
  · rcases mem_put hp with hp | rfl
    · exact h'.rg p hp
    · exact ⟨h2, h3⟩
theorem StG.snaps {n : Nat} {st : Sta} {k : Int × Int} {v : Option Cells} (h : StG n st) (h1 : ∀ c, v = some c → c.length ≤ n + 1) : StG (n + 1) { st with sn := setI st.sn k v } := by
  have h' := h.mono (Nat.le_succ n)
  refine ⟨⟨h'.sm.sp, Nat.le_trans set_len (Nat.succ_le_succ h.sm.sn), h'.sm.mr, h'.sm.cs, fun p hp => ?_⟩, h'.rg⟩
  rcases mem_set' hp with hp | ⟨w, e, rfl⟩
  · exact h'.sm.cn p hp
  · exact h1 w e
theorem StG.gone {n : Nat} {st : Sta} {k : Int} (h : StG n st) : StG n (goneS k st) :=
  ⟨⟨Nat.le_trans del_len h.sm.sp, Nat.le_trans (List.length_filter_le _ _) h.sm.sn, h.sm.mr, fun p hp => h.sm.cs p (mem_del hp), fun p hp => h.sm.cn p (List.mem_filter.mp hp).1⟩, fun p hp => h.rg p (mem_del hp)⟩
theorem snap_len {cs : Cells} {n : Nat} {b : Option Int} (c1 : cs.length ≤ n) : ∀ c, (b.map fun _ => cs) = some c → c.length ≤ n + 1 := fun c e => by
  cases b with
  | none => cases e
  | some b =>
    obtain rfl : cs = c := Option.some.inj e
    exact Nat.le_succ_of_le c1
theorem StG.within {n : Nat} {st : Sta} {e : Eff} {k : Int} {s : Spc} (h : StG n st) (hs : (k, s) ∈ st.sp) : StG (n + 1) (within s e st) := by
  have h' := h.mono (Nat.le_succ n)
  have c1 : s.cs.length ≤ n := h.sm.cs _ hs
  have r1 : (s.rg.map (·.1)).Nodup := (h.rg _ hs).1
  have r2 : s.rg.length ≤ n := (h.rg _ hs).2
  cases e with
  | gone n' o => exact h'.gone
  | snap n' m b => exact h.snaps (snap_len c1)
  | place n' p v => exact h.space (Nat.le_trans set_len (Nat.succ_le_succ c1)) r1 (Nat.le_succ_of_le r2)
  | key n' hh x =>
    cases x with
    | none => exact h.space (Nat.le_succ_of_le c1) (filt_nodup r1) (Nat.le_trans out_len (Nat.le_succ_of_le r2))
    | some x => exact h.space (Nat.le_succ_of_le c1) (ins_nodup r1) (Nat.le_trans ins_len (Nat.succ_le_succ r2))
  | hold n' hd => exact h.space (Nat.le_succ_of_le c1) r1 (Nat.le_succ_of_le r2)
  | host _ _ _ _ => exact h'
  | told _ _ => exact h'
  | space _ _ => exact h'
theorem StG.after {n : Nat} {st : Sta} {e : Eff} (h : StG n st) : StG (n + 1) (afterE e st) := by
  have h' := h.mono (Nat.le_succ n)
  have inn : ∀ m, spaceOf e = some m → StG (n + 1) (afterE e st) := fun m hm => by
    rw [after_in hm]
    cases hl : lookI st.sp m with
    | none => exact h'
    | some s => exact h.within (look_mem hl)
  cases e with
  | host hh s c an => exact h.marks
  | told hh d =>
    cases hl : lookI st.mr hh with
    | none => simp only [afterE, hl]; exact h'
    | some m => rw [after_told hl]; exact h.marks
  | space m z => exact h.space (Nat.zero_le _) List.nodup_nil (Nat.zero_le _)
  | gone m o => exact inn m rfl
  | snap m _ _ => exact inn m rfl
  | place m _ _ => exact inn m rfl
  | key m _ _ => exact inn m rfl
  | hold m _ => exact inn m rfl
theorem StG.afters {n : Nat} : ∀ {es : List Eff} {st : Sta}, StG n st → StG (n + es.length) (es.foldl (fun s e => afterE e s) st)
  | [], st, h => h
  | e :: es, st, h => by
    have := StG.afters (es := es) (h.after (e := e))
    rw [List.foldl_cons, List.length_cons, show n + (es.length + 1) = n + 1 + es.length from by omega]; exact this
theorem effs_len {r : Rc} : (effsR r).length ≤ 3 := by
  unfold effsR
  cases r.b with
  | leave n b => cases b <;> simp [effsB]
  | preempt n v w => cases w <;> simp [effsB]
  | _ => simp [effsB]
theorem StG.record {n : Nat} {st : Sta} {r : Rc} (h : StG n st) : StG (n + 3) (afterR st r) := (StG.afters (es := effsR r) (h.order (o := r.o))).mono (by have := effs_len (r := r); omega)
theorem look_put {α β : Type} [DecidableEq α] {l : List (α × β)} {k : α} {v : β} : lookI (putI l k v) k = some v := by
  unfold lookI putI
  have : (delI l k).find? (fun p => decide (p.1 = k)) = none := by
    rw [List.find?_eq_none]
    intro p hp
    have := (List.mem_filter.mp hp).2
    simpa using this
  rw [List.find?_append, this]; simp
/-- a host is told only behind its mark -/
theorem told_ok {r : Rc} {st : Sta} {i : Nat} {h : Int} {d : PyData} (e : (effsR r)[i]? = some (.told h d)) : ∃ m, lookI (((effsR r).take i).foldl (fun s e => afterE e s) st).mr h = some m := by
  unfold effsR at e ⊢
  cases i with
  | zero => simp at e
  | succ i =>
    rw [List.getElem?_cons_succ] at e
    have hb : ∃ d', r.b = .mark d' := by
      cases hb : r.b with
      | mark d' => exact ⟨d', rfl⟩
      | leave n b => rw [hb] at e; cases b <;> (have := List.mem_of_getElem? e; simp [effsB] at this)
      | preempt n v w => rw [hb] at e; cases w <;> (have := List.mem_of_getElem? e; simp [effsB] at this)
      | _ => rw [hb] at e; have := List.mem_of_getElem? e; simp [effsB] at this
    obtain ⟨d', hb⟩ := hb
    rw [hb] at e ⊢
    cases i with
    | succ i => simp [effsB] at e
    | zero =>
      obtain ⟨rfl, rfl⟩ : r.h = h ∧ d' = d := by simpa [effsB] using e
      exact ⟨_, look_put⟩
def bdOk : Bd → Prop
  | .reserve _ w => PyData.strOk w = true
  | .preempt _ _ (some w) => PyData.strOk w = true
  | _ => True
theorem effs_ok {r : Rc} (h : bdOk r.b) : ∀ e ∈ effsR r, efOk e := fun e he => by
  unfold effsR at he
  rcases List.mem_cons.mp he with rfl | he
  · exact True.intro
  · cases hb : r.b with
    | reserve n w => rw [hb] at he h; simp [effsB] at he; subst he; intro a b e; cases e; exact h
    | leave n b => rw [hb] at he; cases b <;> (simp [effsB] at he) <;> (try rcases he with rfl | rfl) <;> (try subst he) <;> first | exact True.intro | (intro a b e; cases e)
    | preempt n v w =>
      rw [hb] at he h
      cases w with
      | none => simp [effsB] at he; subst he; exact True.intro
      | some w => simp [effsB] at he; rcases he with rfl | rfl
                  · exact True.intro
                  · intro a b e; cases e; exact h
    | release n => rw [hb] at he; simp [effsB] at he; subst he; intro a b e; cases e
    | _ => rw [hb] at he; simp [effsB] at he; subst he; exact True.intro
end Sg

set_option Elab.async false
set_option linter.all false
set_option maxRecDepth 100000
set_option maxHeartbeats 4000000
namespace Sg
open PySem PySem.Spec PyProof.Rows L2
/-! ### new_state, apply_record, fold -/
def emptyS : Sta := ⟨0, [], [], []⟩
def spNewState (K : PySem.W.Frag) : Sp := fun vs H Q _ => vs = [] ∧ ∀ D H', Same H H' → StAt K H' D emptyS → Q (.ref D) H'
def spApply (K : PySem.W.Frag) : Sp := fun vs H Q _ => ∃ (a t : Addr) (st : Sta) (r : Rc), vs = [.ref a, .ref t] ∧ StAt K H a st ∧ StG 800 st ∧ RecAt K H t r ∧ bdOk r.b ∧ ∀ D H', Same H H' → StAt K H' D (afterR st r) → Q (.ref D) H'
def foldR (rs : List Rc) : Sta := rs.foldl afterR emptyS
def spFold (K : PySem.W.Frag) : Sp := fun vs H Q _ => ∃ (a : Addr) (ts : List Addr) (rs : List Rc), vs = [.ref a] ∧ SqL K H a (ts.map V.ref) ∧ Paired (RecAt K H) ts rs ∧ rs.length ≤ 200 ∧ (∀ r ∈ rs, RGood r ∧ bdOk r.b) ∧ (∀ x ∈ rs, ∀ y ∈ rs, x.o = y.o → x = y) ∧
  ∀ D rs' H', Same H H' → rs'.Pairwise (fun x y => x.o < y.o) → (∀ r, r ∈ rs' ↔ r ∈ rs) → StAt K H' D (foldR rs') → Q (.ref D) H'
theorem empty_g : StG 0 emptyS := ⟨⟨Nat.le_refl _, Nat.le_refl _, Nat.le_refl _, (fun _ h => nomatch h), (fun _ h => nomatch h)⟩, (fun _ h => nomatch h)⟩
theorem fold_g : ∀ {rs : List Rc} {n : Nat} {st : Sta}, StG n st → StG (n + 3 * rs.length) (rs.foldl afterR st)
  | [], n, st, h => h
  | r :: rs, n, st, h => by
    have := fold_g (rs := rs) (h.record (r := r))
    rw [List.foldl_cons, List.length_cons, show n + 3 * (rs.length + 1) = n + 3 + 3 * rs.length from by omega]; exact this
theorem tab_nil {K : PySem.W.Frag} {κ α β : Type} [DecidableEq κ] [DecidableEq α] {T : TKd K κ} {R : Hp → V → β → Prop} {emb : α → κ} {H : Hp} {d : Addr} (h : H d = some (T.ho [])) : TabAt T R emb H d ([] : List (α × β)) := ⟨[], h, .nil, List.nodup_nil⟩
theorem nodup_len {α : Type} [DecidableEq α] : ∀ {l m : List α}, l.Nodup → (∀ x ∈ l, x ∈ m) → l.length ≤ m.length
  | [], _, _, _ => Nat.zero_le _
  | x :: l, m, nd, h => by
    rw [List.nodup_cons] at nd
    have hx := h x List.mem_cons_self
    have := nodup_len (l := l) (m := m.erase x) nd.2 fun y hy => (List.mem_erase_of_ne (fun e => nd.1 (by rw [← e]; exact hy))).mpr (h y (List.mem_cons_of_mem _ hy))
    rw [List.length_erase_of_mem hx] at this
    have := List.length_pos_of_mem hx
    rw [List.length_cons]; omega
theorem asc_len {rs rs' : List Rc} (asc : rs'.Pairwise (fun x y => x.o < y.o)) (mem : ∀ r, r ∈ rs' ↔ r ∈ rs) : rs'.length ≤ rs.length := by
  have nd : (rs'.map (·.o)).Nodup := by
    unfold List.Nodup
    rw [List.pairwise_map]
    exact asc.imp fun h e => by omega
  have := nodup_len (m := rs.map (·.o)) nd fun x hx => by
    obtain ⟨r, hr, e⟩ := List.mem_map.mp hx
    exact List.mem_map.mpr ⟨r, (mem r).mp hr, e⟩
  rw [List.length_map, List.length_map] at this
  exact this
section
variable {P : Program} {wd : World} {K : PySem.W.Frag} {mg : Str → Option Value} {base : Heap} {f fE fA fN fO fP : Addr} {fd fdE fdA fdN fdO fdP : FuncData}
theorem asg_e {te : TE} {g : TG} {r : TS} {D : Ends} {σ : L2.St} {H : Hp} (h : te σ H fun x H1 => g x σ H1 fun σ' H' => r D σ' H') : tSeq (tAsg te g) r D σ H := h
theorem new_te {σ : L2.St} {H : Hp} {Q : VK} (q : ∀ D H', Same H H' → StAt K H' D emptyS → Q (.ref D) H') : tDisp [(tC (.str "order"), tC (.int 0)), (tC (.str "spaces"), tDNewK), (tC (.str "snaps"), tDNewT), (tC (.str "marks"), tDNewK)] σ H Q := by
  intro D hD d1 h1 d2 h2 d3 h3
  have s0 := same_new (o := .dK []) hD
  have s1 := same_new (o := .dK []) h1
  have s2 := same_new (o := .dT []) h2
  have s3 := same_new (o := .dK []) h3
  have u0 : (upd H D (.dK [])) D = some (.dK []) := upd_same
  have u1 : (upd (upd H D (.dK [])) d1 (.dK [])) d1 = some (.dK []) := upd_same
  have u2 : (upd (upd (upd H D (.dK [])) d1 (.dK [])) d2 (.dT [])) d2 = some (.dT []) := upd_same
  have e1 := s3 _ _ (s2 _ _ u1)
  have e2 := s3 _ _ u2
  have e3 : (upd (upd (upd (upd H D (.dK [])) d1 (.dK [])) d2 (.dT [])) d3 (.dK [])) d3 = some (.dK []) := upd_same
  have eD := s3 _ _ (s2 _ _ (s1 _ _ u0))
  have n1 : d1 ≠ D := fun e => by rw [e, upd_same] at h1; cases h1
  have n2 : d2 ≠ D := fun e => by rw [e, s1 _ _ upd_same] at h2; cases h2
  have n3 : d3 ≠ D := fun e => by rw [e, s2 _ _ (s1 _ _ upd_same)] at h3; cases h3
  refine ⟨eD, stK 0 d1 d2 d3, rfl, by show 4 ≤ 15; decide, q D _ (fun b u e => ?_) ⟨d1, d2, d3, upd_same, tab_nil ?_, tab_nil ?_, tab_nil ?_⟩⟩
  · have : b ≠ D := fun w => by rw [w, hD] at e; cases e
    rw [upd_ne this]; exact s3 _ _ (s2 _ _ (s1 _ _ (s0 _ _ e)))
  · rw [upd_ne n1]; exact e1
  · rw [upd_ne n2]; exact e2
  · rw [upd_ne n3]; exact e3
theorem scNewState : FnScope [] [] (defScope sNewState) := ⟨rfl, rfl, rfl, by decide +kernel, rfl, by decide +kernel, by decide +kernel⟩
theorem ok_newState (F : Fun K "new_state" "new_state" sNewState f fd) : FnOk P wd K mg base CX0 1 f fd [] (spNewState K) := by
  refine F.ok scNewState (fun vs H Q E h => ?_) (fun cdv A outer s H vs Q E hr h => ?_)
  · obtain ⟨rfl, _⟩ := h
    rfl
  · obtain ⟨rfl, q⟩ := h
    refine ⟨_, (pss_one (ps_ret (pe_disp (pps_cons pe_str pe_int (pps_cons pe_str pe_dnewK (pps_cons pe_str pe_dnewT (pps_cons pe_str pe_dnewK pps_nil)))) rfl rfl (by decide) (by decide)))), ?_⟩
    exact new_te q
theorem scApply : FnScope ["state", "record", "after", "topic", "value"] ["state", "record"] (defScope sApply) := ⟨rfl, rfl, rfl, by decide +kernel, rfl, by decide +kernel, by decide +kernel⟩
theorem ok_apply (F : Fun K "apply_record" "apply_record" sApply f fd) (GE : Def P wd K mg base CX0 "effects" 2 ["record"] (spEffects K) fE fdE) (GA : Def P wd K mg base CX0 "_after_effect" 5 ["state","topic","value"] (spAfterEff K) fA fdA) : FnOk P wd K mg base CX0 6 f fd ["state","record"] (spApply K) := by
  refine F.ok scApply (fun vs H Q E h => ?_) (fun cdv A outer s H vs Q E hr h => ?_)
  · obtain ⟨a, t, st, r, rfl, _⟩ := h
    rfl
  · obtain ⟨a, t, st, r, rfl, SA, G, RA, bok, q⟩ := h
    have hr5 : Room 5 _ := hr.mono (by decide)
    have hr2 : Room 2 _ := hr.mono (by decide)
    refine ⟨_, (pss_cons (ps_set (i := 2) scApply.nd rfl (Or.inl rfl) (pe_dstar (pv 0) pe_str (pe_ix ix_tup (pv 1) pe_int (fun _ _ => rfl))))
      (pss_cons (ps_for PassesOwn.never rfl (pi_list (pe_call GE.ok hr2 (by rfl) GE.mg GE.kp GE.bd .nil pass0 (pa_cons (pv 1) pa_nil))) (pg_tup (by rfl) (pgs_cons (pg_name (i := 3) scApply.nd rfl (Or.inl rfl)) (pgs_cons (pg_name (i := 4) scApply.nd rfl (Or.inl rfl)) L2.pgs_nil)))
      (pss_one (ps_set (i := 2) scApply.nd rfl (Or.inl rfl) (pe_call GA.ok hr5 (by rfl) GA.mg GA.kp GA.bd .nil pass0 (pa_cons (pv 2) (pa_cons (pv 3) (pa_cons (pv 4) pa_nil)))))))
      (pss_one (ps_ret (pv 2))))), ?_⟩
    obtain ⟨b1, b2, b3, ha, t1, t2, t3⟩ := id SA
    obtain ⟨ys, hsq, _⟩ := id RA
    refine asg_e ?_
    refine star_gen (part := "order") (Pa := fun o' c1 c2 c3 _ _ => o' = st.o ∧ c1 = b1 ∧ c2 = b2 ∧ c3 = b3) (Tz := fun x _ _ => x = .int r.o) (star_var rfl ha) (fun G R k => k) (fun o' c1 c2 c3 G H1 H2 R _ sG nw s2 k => ⟨_, rfl, t, _, _, _, rfl, rfl, SqT_same s2 hsq, atI_nat (j := 0) rfl, k _ _ (Same.refl _) rfl⟩) (fun D o' c1 c2 c3 x G' H1 H2 H3 H' hD ⟨e0, e1, e2, e3⟩ sG s2 nw ex keep sH hDD => ?_)
    subst e0 e1 e2 e3 ex
    have S0 : StAt K H' D { st with o := r.o } := ⟨c1, c2, c3, hDD, TabAt.same (fun _ _ z => z.same sH) sH t1, TabAt.same (fun _ _ z => z.same sH) sH t2, TabAt.same (fun _ _ z => z.same sH) sH t3⟩
    refine ⟨_, rfl, t, r, rfl, RA.same sH, fun l ps H1 s1 hl pr => ⟨l, rfl, ⟨_, SqL.of hl⟩, ?_⟩⟩
    rw [effsR_ef] at pr
    have plen := Paired.length pr
    rw [List.length_map] at plen
    refine for_list (K := K) (a := l) (xs := ps.map V.ref) (fun i σ' G1 => ∃ (v3 v4 : Option V) (D1 : Addr), σ' = [some (.ref a), some (.ref t), some (.ref D1), v3, v4] ∧ Same H1 G1 ∧ StAt K G1 D1 (((effsR r).take i).foldl (fun s e => afterE e s) { st with o := r.o }))
      ⟨none, none, D, rfl, Same.refl _, S0.same s1⟩ (fun i σ' G1 _ ⟨_, _, _, _, sm, _⟩ => SqL.of (sm _ _ hl)) ?_ ?_
    · rintro i x σ' G1 hx ⟨v3, v4, D1, rfl, sm, S1⟩
      obtain ⟨e, hei, rfl⟩ := map_get hx
      obtain ⟨ef, hefi, he⟩ := paired_at pr hei
      rw [List.getElem?_map] at hefi
      obtain ⟨e', he', rfl⟩ : ∃ e', (effsR r)[i]? = some e' ∧ ef = toEf e' := by
        cases hq : (effsR r)[i]? with
        | none => rw [hq] at hefi; cases hefi
        | some e' => rw [hq] at hefi; exact ⟨e', rfl, (Option.some.inj hefi).symm⟩
      obtain ⟨tt, v, a1, a2, a3⟩ := he
      refine ⟨e, _, rfl, SqT.of (sm _ _ a1), rfl, _, _, rfl, _, _, rfl, rfl, ?_⟩
      have il := (List.getElem?_eq_some_iff.mp he').1
      have e3 := effs_len (r := r)
      have tki : (effsR r).take (i + 1) = (effsR r).take i ++ [e'] := by rw [List.take_add_one, he']; rfl
      refine ⟨_, rfl, _, rfl, _, rfl, D1, tt, v, _, e', rfl, S1, ?_, ⟨sm _ _ a2, dp_same sm _ _ a3⟩, effs_ok bok _ (List.mem_of_getElem? he'), fun h d eq => told_ok (by rw [he', eq]), fun D2 G2 s2 S2 => ?_⟩
      · refine (StG.afters (es := (effsR r).take i) (G.order (o := r.o))).mono ?_
        rw [List.length_take]; omega
      · refine ⟨_, _, D2, rfl, sm.trans s2, ?_⟩
        rw [tki, List.foldl_append]; exact S2
    · rintro σ' G1 ⟨v3, v4, D1, rfl, sm, S1⟩
      refine ⟨_, rfl, q D1 G1 (sH.trans (s1.trans sm)) ?_⟩
      rw [List.length_map, plen, List.take_length] at S1
      exact S1
end
end Sg

set_option Elab.async false
set_option linter.all false
set_option maxRecDepth 100000
set_option maxHeartbeats 4000000
namespace Sg
open PySem PySem.Spec PyProof.Rows L2
/-! ### [(x, d[x]) for x in d if ..]: the law's way to copy a table -/
theorem lc_it {J : It} {n : Nat} {G : Hp → Prop} {Y : Nat → Hp → V → Hp → Prop} (w : Walk J n G Y) {g : TG} {tt : TT} {te : TE} {vs : List Nat} {σ : L2.St} {H1 : Hp} {D : Addr} {Qd : Hp → Prop} (Pv : Nat → Hp → Prop) (h0 : Pv 0 (upd H1 D (.lst []))) (hG : ∀ i H, i ≤ n → Pv i H → G H)
    (hs : ∀ i x H H', i < n → Pv i H → Y i H x H' → g x (wipe σ vs) H' fun σ2 H2 => wipe σ2 vs = wipe σ vs ∧ tt σ2 H2 fun b H3 =>
      if b = true then te σ2 H3 fun y H4 => ∃ acc, H4 D = some (.lst acc) ∧ acc.length < sizeLine ∧ Pv (i + 1) (upd H4 D (.lst (acc ++ [y]))) else Pv (i + 1) H3) (hd : ∀ H, Pv n H → Qd H) :
    ∃ W : Nat → Nat → Hp → Prop, (∃ m, W 0 m (upd H1 D (.lst []))) ∧ ∀ i m H, W i m H →
      (J.stop i H ∧ Qd H) ∨ (J.go i H ∧ ∃ Nx : Hp → Prop, (∀ H', Nx H' → ∃ m', m' < m ∧ W (i + 1) m' H') ∧ ∀ x H', J.yld i H x H' → g x (wipe σ vs) H' fun σ2 H2 => wipe σ2 vs = wipe σ vs ∧ tt σ2 H2 fun b H3 =>
        if b = true then te σ2 H3 fun y H4 => ∃ acc, H4 D = some (.lst acc) ∧ acc.length < sizeLine ∧ Nx (upd H4 D (.lst (acc ++ [y]))) else Nx H3) := by
  refine ⟨fun i m H => m + i = n ∧ Pv i H, ⟨n, rfl, h0⟩, fun i m H ⟨e, p⟩ => ?_⟩
  cases m with
  | zero =>
    have e' : i = n := by omega
    subst e'
    exact .inl ⟨w.stops H (hG _ H (Nat.le_refl _) p), hd H p⟩
  | succ m =>
    have lt : i < n := by omega
    have q := hG i H (Nat.le_of_lt lt) p
    exact .inr ⟨w.goes i H lt q, Pv (i + 1), fun H' p' => ⟨m, Nat.lt_succ_self m, by omega, p'⟩, fun x H' y => hs i x H H' lt p (w.yields i H x H' lt q y)⟩
section
variable {K : PySem.W.Frag} {κ : Type} [DecidableEq κ]
theorem tk_unlock {H : Hp} {d : Addr} {od : Obj} {o u : HO} (h : H d = some (.frz od o)) (n : ∀ xs, o ≠ .tup xs) : TK H (upd H d u) := by
  refine ⟨fun a xs e => ?_, fun a b xs e => ?_⟩
  · rw [upd_ne (fun z => by rw [z, h] at e; cases e)]; exact e
  · rw [upd_ne (fun z => by rw [z, h] at e; exact n xs (by cases e; rfl))]; exact e
/-- the pair p holds the key and the value kv -/
def KvAt (T : TKd K κ) (H : Hp) (p : Addr) (kv : κ × V) : Prop := ∃ y, H p = some (.tup [y, kv.2]) ∧ T.at' H y kv.1
theorem KvAt.tk {T : TKd K κ} {H H' : Hp} {p : Addr} {kv : κ × V} (h : KvAt T H p kv) (s : TK H H') : KvAt T H' p kv := by
  obtain ⟨y, a, b⟩ := h
  exact ⟨y, s.t _ _ a, T.tk s b⟩
theorem keepL_te (T : TKd K κ) {σ : L2.St} {H : Hp} {Q : VK} {jt jx : Nat} {d : Addr} {kvs : List (κ × V)} {tt : TT} (f : κ → Bool) (hjx : jx < σ.length) (htx : jt ≠ jx) (ht : σ[jt]? = some (some (.ref d)))
    (hd : H d = some (T.ho kvs)) (nd : (kvs.map (·.1)).Nodup) (hl : kvs.length ≤ 1000)
    (he : ∀ x k H' (Q' : Bool → Hp → Prop), k ∈ kvs.map (·.1) → T.at' H' x k → TK H H' → Q' (f k) H' → tt ((σ.set jx none).set jx (some x)) H' Q')
    (q : ∀ D ps H', Same H H' → H' D = some (.lst (ps.map V.ref)) → Paired (KvAt T H') ps (kvs.filter fun p => f p.1) → Q (.ref D) H') :
    tLockE (tLc (iKeys (tVar jt)) (gName jx) tt (tTup (tCons (tVar jx) (tCons (tDGet (tVar jt) (tVar jx)) tNil))) [jx]) σ H Q := by
  refine ⟨d, T.ho kvs, hd, T.mt _, fun od => ?_⟩
  have tk1 : TK H (upd H d (.frz od (T.ho kvs))) := tk_upd hd (T.nt kvs).1 (T.nt kvs).2
  have hd1 : (upd H d (.frz od (T.ho kvs))) d = some (.frz od (T.ho kvs)) := upd_same
  have lk := fun H' (s : Same (upd H d (.frz od (T.ho kvs))) H') => lock_same hd rfl s
  generalize upd H d (.frz od (T.ho kvs)) = H1 at tk1 hd1 lk
  refine ⟨_, ht, d, od, rfl, T.walk (R := fun J G => ∀ D, G D = none → ∃ W : Nat → Nat → Hp → Prop, (∃ m, W 0 m (upd G D (.lst []))) ∧ ∀ i m H, W i m H →
      (J.stop i H ∧ H d = some (.frz od (T.ho kvs)) ∧ Q (.ref D) (upd H d (T.ho kvs))) ∨ (J.go i H ∧ ∃ Nx : Hp → Prop, (∀ H', Nx H' → ∃ m', m' < m ∧ W (i + 1) m' H') ∧ ∀ x H', J.yld i H x H' → gName jx x (wipe σ [jx]) H' fun σ2 H2 => wipe σ2 [jx] = wipe σ [jx] ∧ tt σ2 H2 fun b H3 =>
        if b = true then (tTup (tCons (tVar jx) (tCons (tDGet (tVar jt) (tVar jx)) tNil))) σ2 H3 fun y H4 => ∃ acc, H4 D = some (.lst acc) ∧ acc.length < sizeLine ∧ Nx (upd H4 D (.lst (acc ++ [y]))) else Nx H3)) hd1 fun J w D hD => ?_⟩
  refine lc_it w (fun i H' => Same H1 H' ∧ ∃ ps, H' D = some (.lst (ps.map V.ref)) ∧ Paired (KvAt T H') ps ((kvs.take i).filter fun p => f p.1)) ⟨same_new hD, [], upd_same, .nil⟩ (fun i H' _ p => p.1 _ _ hd1) ?_ ?_
  · rintro i x H' H'' hi ⟨sm, ps, hDi, pr⟩ ⟨rfl, k, v, hki, hat⟩
    have g1 : ((wipe σ [jx]).set jx (some x))[jx]? = some (some x) := by
      rw [List.getElem?_set_self (by rw [wipe_length]; exact hjx)]
    have gt : ((wipe σ [jx]).set jx (some x))[jt]? = some (some (.ref d)) := by
      rw [List.getElem?_set_ne (Ne.symm htx)]
      show (σ.set jx none)[jt]? = _
      rw [List.getElem?_set_ne (Ne.symm htx)]; exact ht
    refine ⟨?_, ?_⟩
    · show ((σ.set jx none).set jx (some x)).set jx none = σ.set jx none
      rw [List.set_set, List.set_set]
    · refine he x k H'' _ (List.mem_map.mpr ⟨_, List.mem_of_getElem? hki, rfl⟩) hat (tk1.trans (TK.of sm)) ?_
      have tks : (kvs.take (i + 1)).filter (fun p => f p.1) = (kvs.take i).filter (fun p => f p.1) ++ (if f k = true then [(k, v)] else []) := by
        rw [List.take_add_one, hki, List.filter_append]
        by_cases c : f k = true <;> simp [c]
      have lt : (kvs.take i).length ≤ 1000 := by rw [List.length_take]; omega
      by_cases c : f k = true
      · refine chooseT' c ?_
        refine ⟨_, g1, _, gt, _, g1, d, v, rfl, ?_, by show 2 ≤ sizeLine; decide, fun p hp => ?_⟩
        · have := T.get (.inr ⟨od, sm _ _ hd1⟩) hat
          rw [valV_get nd hki] at this; exact this
        · have s2 := same_new (o := .tup [x, v]) hp
          have hp2 : (upd H'' p (.tup [x, v])) p = some (.tup [x, v]) := upd_same
          generalize upd H'' p (.tup [x, v]) = H3 at s2 hp2
          have hD3 := s2 _ _ hDi
          have pl := Paired.length pr
          have fl : ((kvs.take i).filter fun p => f p.1).length ≤ (kvs.take i).length := List.length_filter_le _ _
          refine ⟨ps.map V.ref, hD3, small1000 (by rw [List.length_map]; omega), fun b o e => ?_, ps ++ [p], by rw [List.map_append]; exact upd_same, ?_⟩
          · have : b ≠ D := fun z => by rw [z, hD] at e; cases e
            rw [upd_ne this]; exact s2 _ _ (sm _ _ e)
          · have t3 : TK H3 (upd H3 D (.lst (ps.map V.ref ++ [V.ref p]))) := tk_upd hD3 (fun _ z => nomatch z) (fun _ _ z => nomatch z)
            rw [tks, if_pos c]
            refine pr_snoc ⟨x, t3.t _ _ hp2, T.tk ((TK.of s2).trans t3) hat⟩ (Paired.imp2 (fun _ _ z => z.tk ((TK.of s2).trans t3)) pr)
      · refine chooseF' (by simpa using c) ⟨sm, ps, hDi, ?_⟩
        rw [tks, if_neg c, List.append_nil]; exact pr
  · rintro H' ⟨sm, ps, hDn, pr⟩
    have hdn := sm _ _ hd1
    have nDd : D ≠ d := fun z => by rw [z, hd1] at hD; cases hD
    refine ⟨hdn, q D ps _ (lk _ sm) (by rw [upd_ne nDd]; exact hDn) ?_⟩
    rw [List.take_length] at pr
    exact Paired.imp2 (fun _ _ z => z.tk (tk_unlock hdn (T.nt kvs).1)) pr
end
end Sg

set_option Elab.async false
set_option linter.all false
set_option maxRecDepth 100000
set_option maxHeartbeats 4000000
namespace Sg
open PySem PySem.Spec PyProof.Rows L2
/-! ### the law's tables -/
structure BK (mg : Str → Option Value) : Prop where
  len : mg "len" = none
  int : mg "int" = none
  range : mg "range" = none
  min : mg "min" = none
  sorted : mg "sorted" = none
  tuple : mg "tuple" = none
  dict : mg "dict" = none
  repr : mg "repr" = none
  isi : mg "isinstance" = none
theorem u2_of {k : Nat} {A : Around} (hr : Room k A) : A.units + 2 < cLine := by have := hr.un; omega
def WoIn {K : PySem.W.Frag} {κ : Type} [DecidableEq κ] (T : TKd K κ) (vs : List V) (H : Hp) (Q : VK) : Prop := ∃ (d : Addr) (y : V) (l : List (κ × V)) (k : κ), vs = [.ref d, y] ∧ H d = some (T.ho l) ∧ T.at' H y k ∧ T.ok k ∧ (∀ p ∈ l, T.ok p.1) ∧ (l.map (·.1)).Nodup ∧ l.length ≤ 1000 ∧
  ∀ D H', Same H H' → H D = none → H' D = some (T.ho (dropK l k)) → Q (.ref D) H'
def spLWithout (K : PySem.W.Frag) : Sp := fun vs H Q _ => WoIn (kdK K) vs H Q ∨ WoIn (kdT K) vs H Q
theorem dropK_filter {κ : Type} [DecidableEq κ] {l : List (κ × V)} {k : κ} : (l.filter fun p => !decide (p.1 = k)) = dropK l k := by
  unfold dropK
  congr 1
  funext p
  simp
theorem dropK_nodup {κ : Type} [DecidableEq κ] {l : List (κ × V)} {k : κ} (nd : (l.map (·.1)).Nodup) : ((dropK l k).map (·.1)).Nodup := List.Nodup.sublist (List.Sublist.map _ List.filter_sublist) nd
section
variable {P : Program} {wd : World} {K : PySem.W.Frag} {mg : Str → Option Value} {base : Heap} {f fU : Addr} {fd fdU : FuncData}
theorem scLWithout : FnScope ["table", "key", "other"] ["table", "key"] (defScope sLWithout) := ⟨rfl, rfl, rfl, by decide +kernel, rfl, by decide +kernel, by decide +kernel⟩
theorem ok_lwithout (F : Fun K "_law_without" "_law_without" sLWithout f fd) (B : BK mg) : FnOk P wd K mg base CX0 1 f fd ["table","key"] (spLWithout K) := by
  refine F.ok scLWithout (fun vs H Q E h => ?_) (fun cdv A outer s H vs Q E hr h => ?_)
  · rcases h with ⟨d, y, l, k, rfl, _⟩ | ⟨d, y, l, k, rfl, _⟩ <;> rfl
  · refine ⟨_, (pss_one (ps_ret (pe_callTy (call_dictL rfl (u2_of hr)) (by rfl) B.dict (by decide +kernel) (pa_cons (pe_lock (pe_lc (own := [("other", 2)]) (g := gName 2) (tt := tTest (tOp (rNeD K) (tVar 2) (tVar 1))) (te := tTup (tCons (tVar 2) (tCons (tDGet (tVar 0) (tVar 2)) tNil))) (by rfl) scLWithout.nd (pi_keys (pv 0)) (blkOk_by (own := [("other", 2)]) (N := ["table", "key", "other"]) (sc := defScope sLWithout) (by decide +kernel)) (fun _ _ _ _ _ => pg_name (i := 2) scLWithout.nd rfl (Or.inl rfl)) (fun _ _ _ _ _ => pts_one (by exact (pt_cmpR (op_neD (u64_of hr)) (pv 2) (pv 1) (by rfl)))) (fun _ _ _ _ _ => by exact (pe_tup (pa_cons (pv 2) (pa_cons (pe_dget (hu_of hr) (pv 0) (pv 2) (fun _ _ => rfl)) pa_nil)))))) pa_nil)))), ?_⟩
    rcases h with h | h
    · obtain ⟨d, y, l, k, rfl, hd, hk, ok0, ok, nd, hl, q⟩ := h
      refine keepL_te (kdK K) (fun x => !decide (x = k)) (show 2 < 3 by decide) (by decide) rfl hd nd hl (fun x j H' Q' hj hat t z => ?_) fun D ps H' s1 hD pr => ?_
      · have hat0 : (kdK K).at' H' y k := (kdK K).tk t hk
        obtain ⟨p, hp, rfl⟩ := List.mem_map.mp hj
        refine ⟨_, rfl, _, rfl, _, _, (kdK K).dp hat, (kdK K).dp hat0, (kdK K).sh (ok _ hp), (kdK K).sh ok0, _, rfl, ?_⟩
        rw [(kdK K).eqv]; exact z
      · rw [dropK_filter] at pr
        have fin : ∀ p, H' p = none → Q (.ref p) (upd H' p ((kdK K).ho (dropK l k))) := fun p hp => q p _ (s1.trans (same_new hp)) (ltH s1 hp) upd_same
        exact ⟨D, ps, rfl, SqL.of hD, .inl ⟨_, Paired.imp2 (fun p kv z => (by obtain ⟨y', h1, h2⟩ := z; cases h2; exact SqT.of h1)) pr, dropK_nodup nd, fin⟩⟩
    · obtain ⟨d, y, l, k, rfl, hd, hk, ok0, ok, nd, hl, q⟩ := h
      refine keepL_te (kdT K) (fun x => !decide (x = k)) (show 2 < 3 by decide) (by decide) rfl hd nd hl (fun x j H' Q' hj hat t z => ?_) fun D ps H' s1 hD pr => ?_
      · have hat0 : (kdT K).at' H' y k := (kdT K).tk t hk
        obtain ⟨p, hp, rfl⟩ := List.mem_map.mp hj
        refine ⟨_, rfl, _, rfl, _, _, (kdT K).dp hat, (kdT K).dp hat0, (kdT K).sh (ok _ hp), (kdT K).sh ok0, _, rfl, ?_⟩
        rw [(kdT K).eqv]; exact z
      · rw [dropK_filter] at pr
        have fin : ∀ p, H' p = none → Q (.ref p) (upd H' p ((kdT K).ho (dropK l k))) := fun p hp => q p _ (s1.trans (same_new hp)) (ltH s1 hp) upd_same
        exact ⟨D, ps, rfl, SqL.of hD, .inr ⟨_, Paired.imp2 (fun p kv z => (by obtain ⟨y', h1, b, e, h2⟩ := z; subst e; exact ⟨b, SqT.of h1, h2⟩)) pr, dropK_nodup nd, fin⟩⟩
theorem scLWith : FnScope ["table", "key", "value", "changed"] ["table", "key", "value"] (defScope sLWith) := ⟨rfl, rfl, rfl, by decide +kernel, rfl, by decide +kernel, by decide +kernel⟩
theorem ok_lwith (F : Fun K "_law_with" "_law_with" sLWith f fd) (GU : Def P wd K mg base CX0 "_law_without" 1 ["table","key"] (spLWithout K) fU fdU) : FnOk P wd K mg base CX0 2 f fd ["table","key","value"] (spChanged K) := by
  refine F.ok scLWith (fun vs H Q E h => ?_) (fun cdv A outer s H vs Q E hr h => ?_)
  · rcases h with ⟨d, y, z, l, k, rfl, _⟩ | ⟨d, y, z, l, k, rfl, _⟩ <;> rfl
  · have hr1 : Room 1 _ := hr.mono (by decide)
    refine ⟨_, (pss_cons (ps_set (i := 3) scLWith.nd rfl (Or.inl rfl) (pe_call GU.ok hr1 (by rfl) GU.mg GU.kp GU.bd .nil pass0 (pa_cons (pv 0) (pa_cons (pv 1) pa_nil))))
      (pss_cons (ps_if (pt_cmpR op_notN (pv 2) pe_non (nomark _))
      (pss_one (ps_dput (hu_of hr) (pv 3) (pv 1) (pv 2) rfl)) pss_nil)
      (pss_one (ps_ret (pv 3))))), ?_⟩
    rcases h with h | h
    · obtain ⟨d, y, z, l, k, rfl, hd, hk, ok0, ok, nd, hl, q⟩ := h
      refine ⟨_, rfl, _, rfl, .inl ⟨d, y, l, k, rfl, hd, hk, ok0, ok, nd, hl, fun D H1 s1 hD hD1 => ?_⟩⟩
      have hk1 : (kdK K).at' H1 y k := (kdK K).tk (TK.of s1) hk
      refine ⟨_, rfl, rfl, _, rfl, ?_⟩
      by_cases c : z = .non
      · refine chooseF (by simp [c]) ?_
        refine ⟨_, rfl, q D H1 s1 hD ?_⟩
        rw [hD1, chg, if_pos c]
      · refine chooseT (by simp [c]) ?_
        refine ⟨_, rfl, _, rfl, _, rfl, D, _, rfl, (kdK K).put hD1 hk1 (small1000 (Nat.le_trans dropK_len hl)), _, rfl, q D _ (fun b o e => ?_) hD ?_⟩
        · have : b ≠ D := fun w => by rw [w, hD] at e; cases e
          rw [upd_ne this]; exact s1 _ _ e
        · rw [putK_new z drop_valV, chg, if_neg c]; exact upd_same
    · obtain ⟨d, y, z, l, k, rfl, hd, hk, ok0, ok, nd, hl, q⟩ := h
      refine ⟨_, rfl, _, rfl, .inr ⟨d, y, l, k, rfl, hd, hk, ok0, ok, nd, hl, fun D H1 s1 hD hD1 => ?_⟩⟩
      have hk1 : (kdT K).at' H1 y k := (kdT K).tk (TK.of s1) hk
      refine ⟨_, rfl, rfl, _, rfl, ?_⟩
      by_cases c : z = .non
      · refine chooseF (by simp [c]) ?_
        refine ⟨_, rfl, q D H1 s1 hD ?_⟩
        rw [hD1, chg, if_pos c]
      · refine chooseT (by simp [c]) ?_
        refine ⟨_, rfl, _, rfl, _, rfl, D, _, rfl, (kdT K).put hD1 hk1 (small1000 (Nat.le_trans dropK_len hl)), _, rfl, q D _ (fun b o e => ?_) hD ?_⟩
        · have : b ≠ D := fun w => by rw [w, hD] at e; cases e
          rw [upd_ne this]; exact s1 _ _ e
        · rw [putK_new z drop_valV, chg, if_neg c]; exact upd_same
theorem scLStart : FnScope [] [] (defScope sLStart) := ⟨rfl, rfl, rfl, by decide +kernel, rfl, by decide +kernel, by decide +kernel⟩
theorem ok_lstart (F : Fun K "_law_start" "_law_start" sLStart f fd) : FnOk P wd K mg base CX0 1 f fd [] (spNewState K) := by
  refine F.ok scLStart (fun vs H Q E h => ?_) (fun cdv A outer s H vs Q E hr h => ?_)
  · obtain ⟨rfl, _⟩ := h
    rfl
  · obtain ⟨rfl, q⟩ := h
    refine ⟨_, (pss_one (ps_ret (pe_disp (pps_cons pe_str pe_int (pps_cons pe_str pe_dnewK (pps_cons pe_str pe_dnewT (pps_cons pe_str pe_dnewK pps_nil)))) rfl rfl (by decide) (by decide)))), ?_⟩
    exact new_te q
end
end Sg

set_option Elab.async false
set_option linter.all false
set_option maxRecDepth 100000
set_option maxHeartbeats 4000000
namespace Sg
open PySem PySem.Spec PyProof.Rows L2
/-! ### the law's answer, and its fence -/
def oV : Option Int → V
  | none => .non
  | some i => .int i
def keyR (rs : List (Int × Int)) (h : Int) : Option Int → List (Int × Int)
  | none => outR rs h
  | some k => insR rs h k
def rowsR (rs : List (Int × Int)) (h : Int) : Option Int → List (Int × Int)
  | none => outR rs h
  | some k => outR rs h ++ [(h, k)]
def SrtR (rs : List (Int × Int)) : Prop := rs.Pairwise fun a b => a.1 < b.1
theorem srt_nodup {rs : List (Int × Int)} (h : SrtR rs) : (rs.map (·.1)).Nodup := List.pairwise_map.mpr (h.imp fun e => by omega)
theorem out_srt {rs : List (Int × Int)} {h : Int} (s : SrtR rs) : SrtR (outR rs h) := List.Pairwise.sublist List.filter_sublist s
theorem ins_srt {rs : List (Int × Int)} {h k : Int} (s : SrtR rs) : SrtR (insR rs h k) := by
  have p := List.pairwise_mergeSort (le := fun a b : Int × Int => decide (a.1 ≤ b.1)) (by intro a b c h1 h2; simp at *; omega) (by intro a b; simp; omega) (outR rs h ++ [(h, k)])
  have nd := List.pairwise_map.mp (ins_nodup (h := h) (k := k) (srt_nodup s))
  exact (p.and nd).imp fun ⟨a, b⟩ => by have := of_decide_eq_true a; omega
theorem key_eq {rs rs' : List (Int × Int)} {h : Int} {k : Option Int} (s : SrtR rs) (p : rs'.Perm (rowsR rs h k)) (so : (rs'.map (·.1)).Pairwise (· ≤ ·)) : rs' = keyR rs h k := by
  cases k with
  | some k => exact ins_eq (srt_nodup s) p so
  | none =>
    have so' := out_srt (h := h) s
    refine List.Perm.eq_of_pairwise (le := fun a b : Int × Int => a.1 ≤ b.1) (fun x y hx hy h1 h2 => fst_inj (srt_nodup so') (p.mem_iff.mp hx) hy (by omega)) (List.pairwise_map.mp so) (so'.imp fun e => by omega) p
def spLKey (K : PySem.W.Frag) : Sp := fun vs H Q _ => ∃ (fv : V) (h : Int) (k : Option Int) (rs : List (Int × Int)) (hd : Option (Int × Str)), vs = [fv, .int h, oV k] ∧ FenceAt K H fv rs hd ∧ SrtR rs ∧ rs.length ≤ 900 ∧ ∀ a H', Same H H' → FenceAt K H' (.ref a) (keyR rs h k) hd → Q (.ref a) H'
def spLAns (K : PySem.W.Frag) : Sp := fun vs H Q _ => ∃ (o : Int) (k : Str), vs = [.int o, .str k] ∧ ∀ v H', Same H H' → Dp K H' v (answD k o) → Q v H'
section
variable {P : Program} {wd : World} {K : PySem.W.Frag} {mg : Str → Option Value} {base : Heap} {f : Addr} {fd : FuncData}
/-- tuple(sorted(rows)), .. made a fence -/
theorem fence_tail {H : Hp} {l r a : Addr} {xs : List V} {hv : V} {hd : Option (Int × Str)} {σ : L2.St} {Q : VK} {il jf : Nat} (h3 : σ[il]? = some (some (.ref l))) (h0 : σ[jf]? = some (some (.ref a))) (hl : H l = some (.lst xs)) (px : ∀ x ∈ xs, PairV H x) (hx : xs.length ≤ 1000) (hf : SqT K H a [.ref r, hv]) (h4 : HoldV K H hv hd)
    (q : ∀ t rs' H', Same H H' → rs'.Perm (xs.map (kOf H)) → (rs'.map (·.1)).Pairwise (· ≤ ·) → FenceAt K H' (.ref t) rs' hd → Q (.ref t) H') :
    tTup (tCons (tCB (rTupP K) (tCons (tCB (rSortedPO K) (tCons (tVar il) tNil)) tNil)) (tCons (tOp (rIxT K) (tVar jf) (tC (.int 1))) tNil)) σ H Q := by
  refine ⟨_, h3, l, _, kOf H, rfl, SqL.of hl, px, fun ys l2 so st hl2 => ?_⟩
  have s4 := same_new (o := .lst ys) hl2
  refine ⟨l2, _, rfl, SqL.of upd_same, fun u o hu od => ?_⟩
  have s5 := same_new (o := .frz o (.tup ys)) hu
  have s45 := s4.trans s5
  refine ⟨_, h0, a, _, _, _, rfl, rfl, SqT_same s45 hf, atI_nat (j := 1) rfl, by show 2 ≤ sizeLine; decide, fun t3 ht3 => ?_⟩
  have s6 := same_new (o := .tup [V.ref u, hv]) ht3
  have s46 := s45.trans s6
  have my : ∀ y ∈ ys, y ∈ xs := fun y hy => st.perm.mem_iff.mp hy
  have p6 := fun y (hy : y ∈ ys) => (px y (my y hy)).tk (TK.of s46)
  have rg := regs_of (K := K) (.inl (.inr ⟨o, s6 _ _ upd_same⟩)) (fun y hy => (p6 y hy).1)
  rw [List.map_congr_left (fun y hy => (p6 y hy).2)] at rg
  refine q t3 (ys.map (kOf H)) _ s46 (st.perm.map _) ?_ ⟨t3, u, hv, rfl, SqT.of upd_same, rg, h4.tk (TK.of s46)⟩
  rw [List.pairwise_map, List.pairwise_map]
  refine List.Pairwise.imp_of_mem (fun {x y} hx hy hxy => ?_) so
  have a1 := SrtO.lexB_no.mp hxy
  show (kOf _ x).1 ≤ (kOf _ y).1
  omega
theorem scLAnswer : FnScope ["order", "kind"] ["order", "kind"] (defScope sLAnswer) := ⟨rfl, rfl, rfl, by decide +kernel, rfl, by decide +kernel, by decide +kernel⟩
theorem ok_lanswer (F : Fun K "_law_answer" "_law_answer" sLAnswer f fd) : FnOk P wd K mg base CX0 1 f fd ["order","kind"] (spLAns K) := by
  refine F.ok scLAnswer (fun vs H Q E h => ?_) (fun cdv A outer s H vs Q E hr h => ?_)
  · obtain ⟨o, k, rfl, _⟩ := h
    rfl
  · obtain ⟨o, k, rfl, q⟩ := h
    refine ⟨_, (pss_cons (ps_if (pt_cmpR op_eq (pv 1) pe_str (nomark _))
      (pss_one (ps_ret pe_non)) pss_nil)
      (pss_cons (ps_if (PW.pt (pw_or (pt_cmpR op_eq (pv 1) pe_str (nomark _)) (pw_or1 (pt_cmpR op_eq (pv 1) pe_str (nomark _)))))
      (pss_one (ps_ret (pe_tup (pa_cons pe_str (pa_cons (pv 0) pa_nil))))) pss_nil)
      (pss_one (ps_ret (pe_tup (pa_cons pe_str (pa_cons pe_non pa_nil))))))), ?_⟩
    refine ⟨_, rfl, rfl, _, rfl, ?_⟩
    by_cases c1 : k = "mark"
    · refine chooseT (by simp [c1]) ?_
      refine q .non H (Same.refl _) ?_
      rw [answD, if_pos c1]; exact .non
    · refine chooseF (by simp [c1]) ?_
      have okT : ∀ x y, Dp K H x y → (y = .int o ∨ y = .none) → answD k o = .tuple [.str "ok", y] → tRet (tTup (tCons (tC (.str "ok")) (tCons (fun σ H Q => Q x H) tNil))) ⟨fun _ _ => False, fun v H' => Q v H', fun _ _ => False, fun _ _ => False⟩ [] H := fun x y hx _ e => by
        refine ⟨by show 2 ≤ sizeLine; decide, fun t ht => ?_⟩
        have s1 := same_new (o := .tup [V.str "ok", x]) ht
        refine q _ _ s1 ?_
        rw [e]
        exact .tup (SqT.of upd_same) (.cons (.str _) (.cons (dp_same s1 _ _ hx) .nil))
      by_cases c2 : k = "snap"
      · have e : answD k o = .tuple [.str "ok", .int o] := by rw [answD, if_neg c1, c2]; rfl
        refine ⟨_, rfl, rfl, _, rfl, ?_⟩
        refine chooseT (by simp [c2]) ?_
        exact ⟨_, rfl, okT (.int o) (.int o) (.int o) (.inl rfl) e⟩
      · refine ⟨_, rfl, rfl, _, rfl, ?_⟩
        refine chooseF (by simp [c2]) ?_
        refine ⟨_, rfl, rfl, _, rfl, ?_⟩
        by_cases c3 : k = "register"
        · have e : answD k o = .tuple [.str "ok", .int o] := by rw [answD, if_neg c1, c3]; rfl
          refine chooseT (by simp [c3]) ?_
          exact ⟨_, rfl, okT (.int o) (.int o) (.int o) (.inl rfl) e⟩
        · have e : answD k o = .tuple [.str "ok", .none] := by
            rw [answD, if_neg c1, if_neg]
            simp [strIn, Ne.symm c2, Ne.symm c3]
          refine chooseF (by simp [c3]) ?_
          exact okT .non .none .non (.inr rfl) e
theorem scLKey : FnScope ["fence", "host", "key", "rows", "row"] ["fence", "host", "key"] (defScope sLKey) := ⟨rfl, rfl, rfl, by decide +kernel, rfl, by decide +kernel, by decide +kernel⟩
theorem ok_lkey (F : Fun K "_law_key" "_law_key" sLKey f fd) (B : BK mg) : FnOk P wd K mg base CX0 1 f fd ["fence","host","key"] (spLKey K) := by
  refine F.ok scLKey (fun vs H Q E h => ?_) (fun cdv A outer s H vs Q E hr h => ?_)
  · obtain ⟨fv, h, k, rs, hd, rfl, _⟩ := h
    rfl
  · obtain ⟨fv, h, k, rs, hd, rfl, ⟨a, r, hv, rfl, h1, h2, h4⟩, so, hl, q⟩ := h
    refine ⟨_, (pss_cons (ps_setLc (i := 3) (own := [("row", 4)]) (g := gName 4) (tt := tTest (tOp rNe (tOp (rIxT K) (tVar 4) (tC (.int 0))) (tVar 1))) (te := tVar 4) (by rfl) scLKey.nd rfl rfl (sw_true rfl rfl rfl (by decide +kernel)) (pi_tup (pe_ix ix_tup (pv 0) pe_int (fun _ _ => rfl))) (blkOk_by (own := [("row", 4)]) (N := ["fence", "host", "key", "rows", "row"]) (sc := defScope sLKey) (by decide +kernel)) (fun _ _ _ _ _ => pg_name (i := 4) scLKey.nd rfl (Or.inl rfl)) (fun _ _ _ _ _ => pts_one (pt_cmpR op_ne (pe_ix ix_tup (pv 4) pe_int (fun _ _ => rfl)) (pv 1) (nomark _))) (fun _ _ _ _ _ => by exact (pv 4)))
      (pss_cons (ps_if (pt_cmpR op_notN (pv 2) pe_non (nomark _))
      (pss_one (ps_expr (pe_bm PySem.F.plainAttrs_list PySem.F.slot_list_append PySem.F.type_list_append mt_append (pv 3) (pa_cons (pe_tup (pa_cons (pv 1) (pa_cons (pv 2) pa_nil))) pa_nil)))) pss_nil)
      (pss_one (ps_ret (pe_tup (pa_cons (pe_callTy call_tupP (by rfl) B.tuple (by decide +kernel) (pa_cons (pe_callB cr_sortedPO (by rfl) B.sorted (by decide +kernel) (pa_cons (pv 3) pa_nil)) pa_nil)) (pa_cons (pe_ix ix_tup (pv 0) pe_int (fun _ _ => rfl)) pa_nil))))))), ?_⟩
    refine ⟨_, rfl, a, _, _, _, rfl, rfl, h1, atI_nat (j := 0) rfl, ?_⟩
    obtain ⟨xs, g1, g2, rfl⟩ := regs_xs h2
    rw [List.length_map] at hl
    refine ⟨r, rfl, ⟨_, g1⟩, fun D hD => ?_⟩
    refine lc_filtT (fun x => !decide ((kOf H x).1 = h)) hD g1 (fun _ => rfl) (Nat.le_of_lt (small1000 (by omega))) (fun x H' Q' hm sm k => ?_) (fun x H' Q' hm k => ⟨_, rfl, k⟩) fun H1 s1 hD1 => ?_
    · obtain ⟨t, rfl, ht⟩ := g2 x hm
      refine ⟨_, rfl, t, _, _, _, rfl, rfl, SqT.of (sm _ _ ht), atI_nat (j := 0) rfl, _, rfl, rfl, _, rfl, ?_⟩
      have e : decide (V.int (kOf H (.ref t)).1 = V.int h) = decide ((kOf H (.ref t)).1 = h) := by
        by_cases z : (kOf H (.ref t)).1 = h
        · rw [decide_eq_true z, decide_eq_true (show V.int _ = V.int h by rw [z])]
        · rw [decide_eq_false z, decide_eq_false (show ¬ V.int _ = V.int h from fun y => z (by injection y))]
      rw [e]
      exact k H' (Same.refl H')
    · have pv := fun x (hx : x ∈ xs.filter fun x => !decide ((kOf H x).1 = h)) => (g2 x ((List.mem_filter.mp hx).1)).tk (TK.of s1)
      have em : (xs.filter fun x => !decide ((kOf H x).1 = h)).map (kOf H1) = outR (xs.map (kOf H)) h := by
        rw [List.map_congr_left (fun x hx => (pv x hx).2)]
        unfold outR
        rw [List.filter_map]
        rfl
      have fl : (xs.filter fun x => !decide ((kOf H x).1 = h)).length ≤ xs.length := List.length_filter_le _ _
      refine ⟨_, rfl, rfl, _, rfl, ?_⟩
      cases k with
      | none =>
        refine chooseF rfl ?_
        refine fence_tail (il := 3) (jf := 0) rfl rfl hD1 (fun x hx => (pv x hx).1) (by omega) (SqT_same s1 h1) (h4.tk (TK.of s1)) fun t rs' H' s2 pm sr hf => ?_
        rw [em] at pm
        rw [key_eq (k := none) so pm sr] at hf
        exact q t H' (s1.trans s2) hf
      | some k =>
        refine chooseT rfl ?_
        refine ⟨_, rfl, .inl ⟨rfl, _, SqL.of hD1⟩, ?_⟩
        refine ⟨_, rfl, _, rfl, by show 2 ≤ sizeLine; decide, fun t ht => ?_⟩
        have s2 := same_new (o := .tup [V.int h, oV (some k)]) ht
        have ht2 : (upd H1 t (.tup [V.int h, oV (some k)])) t = some (.tup [V.int h, V.int k]) := upd_same
        generalize upd H1 t (.tup [V.int h, oV (some k)]) = H2 at s2 ht2
        have hD2 := s2 _ _ hD1
        have ln : ((xs.filter fun x => !decide ((kOf H x).1 = h)) ++ [V.ref t]).length ≤ 1000 := by rw [List.length_append, List.length_singleton]; omega
        refine ⟨D, _, _, rfl, rfl, hD2, small1000 (Nat.le_trans fl (by omega)), ?_⟩
        have t3 : TK H2 (upd H2 D (.lst ((xs.filter fun x => !decide ((kOf H x).1 = h)) ++ [V.ref t]))) := tk_upd hD2 (fun _ z => nomatch z) (fun _ _ z => nomatch z)
        have sH : Same H (upd H2 D (.lst ((xs.filter fun x => !decide ((kOf H x).1 = h)) ++ [V.ref t]))) := fun b o e => by
          have : b ≠ D := fun w => by rw [w, hD] at e; cases e
          rw [upd_ne this]; exact s2 _ _ (s1 _ _ e)
        have hD3 : (upd H2 D (.lst ((xs.filter fun x => !decide ((kOf H x).1 = h)) ++ [V.ref t]))) D = some (.lst ((xs.filter fun x => !decide ((kOf H x).1 = h)) ++ [V.ref t])) := upd_same
        have px : ∀ x ∈ (xs.filter fun x => !decide ((kOf H x).1 = h)) ++ [V.ref t], PairV (upd H2 D (.lst ((xs.filter fun x => !decide ((kOf H x).1 = h)) ++ [V.ref t]))) x := fun x hx => by
          rcases List.mem_append.mp hx with hx | hx
          · exact ((pv x hx).1.tk ((TK.of s2).trans t3)).1
          · rw [List.mem_singleton.mp hx]; exact pairV_at (t3.t _ _ ht2)
        refine fence_tail (il := 3) (jf := 0) rfl rfl hD3 px ln (SqT_same sH h1) (h4.tk (TK.of sH)) fun t5 rs' H' s3 pm sr hf => ?_
        have em2 : ((xs.filter fun x => !decide ((kOf H x).1 = h)) ++ [V.ref t]).map (kOf (upd H2 D (.lst ((xs.filter fun x => !decide ((kOf H x).1 = h)) ++ [V.ref t])))) = outR (xs.map (kOf H)) h ++ [(h, k)] := by
          rw [List.map_append, List.map_congr_left (fun x hx => ((pv x hx).1.tk ((TK.of s2).trans t3)).2), em, List.map_cons, kOf_at (t3.t _ _ ht2)]
          rfl
        rw [em2] at pm
        rw [key_eq (k := some k) so pm sr] at hf
        exact q t5 H' (sH.trans s3) hf
end
end Sg

set_option Elab.async false
set_option linter.all false
set_option maxRecDepth 100000
set_option maxHeartbeats 4000000
namespace Sg
open PySem PySem.Spec PyProof.Rows L2
/-! ### the law's spaces -/
def spcN : Bd → Option Int
  | .write n _ _ => some n | .trim n _ => some n | .register n => some n | .leave n _ => some n | .reserve n _ => some n | .release n => some n | .preempt n _ _ => some n
  | _ => none
def spcL (o h : Int) (s : Spc) : Bd → Spc
  | .write _ p v => { s with cs := putI s.cs p v }
  | .trim _ p => { s with cs := delI s.cs p }
  | .register _ => { s with rg := insR s.rg h o }
  | .leave _ held => { s with rg := outR s.rg h, hd := if held = true then none else s.hd }
  | .reserve _ w => { s with hd := some (h, w) }
  | .release _ => { s with hd := none }
  | .preempt _ v none => { s with rg := outR s.rg v }
  | .preempt _ v (some w) => { s with rg := outR s.rg v, hd := some (h, w) }
  | _ => s
def spLSpace (K : PySem.W.Frag) : Sp := fun vs H Q _ => ∃ (w fl : Addr) (st : Sta) (o h n : Int) (b : Bd) (ys : List V) (s : Spc), vs = [.ref w, .int o, .int h, .str (kindS b), .ref fl] ∧ StAt K H w st ∧ StG 900 st ∧ SrtR s.rg ∧ SqT K H fl ys ∧ DpAll K H ys (fldD b) ∧ spcN b = some n ∧ lookI st.sp n = some s ∧ bdOk b ∧
  ∀ a H', Same H H' → SpcAt K H' (.ref a) (spcL o h s b) → Q (.ref a) H'
section
variable {P : Program} {wd : World} {K : PySem.W.Frag} {mg : Str → Option Value} {base : Heap} {f fL fU fK : Addr} {fd fdL fdU fdK : FuncData}
theorem scLSpace : FnScope ["world", "order", "host", "kind", "fields", "size", "cells", "fence"] ["world", "order", "host", "kind", "fields"] (defScope sLSpace) := ⟨rfl, rfl, rfl, by decide +kernel, rfl, by decide +kernel, by decide +kernel⟩
theorem wo_tab {κ α β : Type} [DecidableEq κ] [DecidableEq α] (T : TKd K κ) {R : Hp → V → β → Prop} {emb : α → κ} (he : ∀ a b, emb a = emb b → a = b) (hok : ∀ a, T.ok (emb a)) {H : Hp} {d : Addr} {l : List (α × β)} {k : α} {y : V} {Q : VK}
    (h : TabAt T R emb H d l) (hl : l.length ≤ 1000) (hk : T.at' H y (emb k)) (q : ∀ D H', Same H H' → H D = none → TabAt T (fun _ => R H) emb H' D (delI l k) → Q (.ref D) H') : WoIn T [.ref d, y] H Q := by
  obtain ⟨kvs, hd, pr, nd⟩ := h
  refine ⟨d, y, kvs, emb k, rfl, hd, hk, hok k, fun p hp => ?_, pr_nodup he (R := R H) pr nd, by rw [Paired.length pr]; exact hl, fun D H' s hD hDn => q D H' s hD ⟨_, hDn, pr_drop he (R := R H) pr, del_nodup nd⟩⟩
  obtain ⟨j, hj⟩ := List.mem_iff_getElem?.mp hp
  obtain ⟨q, _, hq⟩ := paired_at pr hj
  rw [hq.1]; exact hok _
/-- (fence[0], x) -/
theorem fence_put {H : Hp} {fv : V} {rg : List (Int × Int)} {hd hd' : Option (Int × Str)} {σ : L2.St} {Q : VK} {tv : TE} (hσ : σ[7]? = some (some fv)) (hf : FenceAt K H fv rg hd) (hv : ∀ (H1 : Hp) (R : VK), Same H H1 → (∀ x H2, Same H1 H2 → HoldV K H2 x hd' → R x H2) → tv σ H1 R)
    (q : ∀ a H', Same H H' → FenceAt K H' (.ref a) rg hd' → Q (.ref a) H') : tTup (tCons (tOp (rIxT K) (tVar 7) (tC (.int 0))) (tCons tv tNil)) σ H Q := by
  obtain ⟨fa, fr, fhv, rfl, f1, f2, f4⟩ := hf
  refine ⟨_, hσ, fa, _, _, _, rfl, rfl, f1, atI_nat (j := 0) rfl, ?_⟩
  refine hv H _ (Same.refl H) fun x H2 s2 hx => ⟨by show 2 ≤ sizeLine; decide, fun t ht => ?_⟩
  have s3 := same_new (o := .tup [V.ref fr, x]) ht
  exact q t _ (s2.trans s3) ⟨t, fr, x, rfl, SqT.of upd_same, f2.tk (TK.of (s2.trans s3)), hx.tk (TK.of s3)⟩
theorem ok_lspace (F : Fun K "_law_space" "_law_space" sLSpace f fd) (GL : Def P wd K mg base CX0 "_law_with" 2 ["table","key","value"] (spChanged K) fL fdL) (GU : Def P wd K mg base CX0 "_law_without" 1 ["table","key"] (spLWithout K) fU fdU) (GK : Def P wd K mg base CX0 "_law_key" 1 ["fence","host","key"] (spLKey K) fK fdK) :
    FnOk P wd K mg base CX0 3 f fd ["world","order","host","kind","fields"] (spLSpace K) := by
  refine F.ok scLSpace (fun vs H Q E h => ?_) (fun cdv A outer s H vs Q E hr h => ?_)
  · obtain ⟨w, fl, st, o, h, n, b, ys, s, rfl, _⟩ := h
    rfl
  · obtain ⟨w, fl, st, o, h, n, b, ys, s, rfl, SA, G, so, hfl, hfd, hn, hl, bok, q⟩ := h
    have hr2 : Room 2 _ := hr.mono (by decide)
    have hr1 : Room 1 _ := hr.mono (by decide)
    refine ⟨_, (pss_cons (ps_asg (pe_dget (hu_of hr) (pe_dget (hu_of hr) (pv 0) pe_str (fun _ _ => rfl)) (pe_ix ix_tup (pv 4) pe_int (fun _ _ => rfl)) (fun _ _ => rfl)) (pg_tup (by rfl) (pgs_cons (pg_name (i := 5) scLSpace.nd rfl (Or.inl rfl)) (pgs_cons (pg_name (i := 6) scLSpace.nd rfl (Or.inl rfl)) (pgs_cons (pg_name (i := 7) scLSpace.nd rfl (Or.inl rfl)) L2.pgs_nil)))))
      (Evl.pss_cut (ps_if (pt_cmpR op_eq (pv 3) pe_str (nomark _))
      (pss_one (ps_set (i := 6) scLSpace.nd rfl (Or.inl rfl) (pe_call GL.ok hr2 (by rfl) GL.mg GL.kp GL.bd .nil pass0 (pa_cons (pv 6) (pa_cons (pe_ix ix_tup (pv 4) pe_int (fun _ _ => rfl)) (pa_cons (pe_ix ix_tup (pv 4) pe_int (fun _ _ => rfl)) pa_nil)))))) (pss_one (ps_if (pt_cmpR op_eq (pv 3) pe_str (nomark _))
      (pss_one (ps_set (i := 6) scLSpace.nd rfl (Or.inl rfl) (pe_call GU.ok hr1 (by rfl) GU.mg GU.kp GU.bd .nil pass0 (pa_cons (pv 6) (pa_cons (pe_ix ix_tup (pv 4) pe_int (fun _ _ => rfl)) pa_nil))))) (pss_one (ps_if (pt_cmpR op_eq (pv 3) pe_str (nomark _))
      (pss_one (ps_set (i := 7) scLSpace.nd rfl (Or.inl rfl) (pe_call GK.ok hr1 (by rfl) GK.mg GK.kp GK.bd .nil pass0 (pa_cons (pv 7) (pa_cons (pv 2) (pa_cons (pv 1) pa_nil)))))) (pss_one (ps_if (pt_cmpR op_eq (pv 3) pe_str (nomark _))
      (pss_cons (ps_set (i := 7) scLSpace.nd rfl (Or.inl rfl) (pe_call GK.ok hr1 (by rfl) GK.mg GK.kp GK.bd .nil pass0 (pa_cons (pv 7) (pa_cons (pv 2) (pa_cons pe_non pa_nil)))))
      (pss_one (ps_if (pt_val (pe_ix ix_tup (pv 4) pe_int (fun _ _ => rfl)))
      (pss_one (ps_set (i := 7) scLSpace.nd rfl (Or.inl rfl) (pe_tup (pa_cons (pe_ix ix_tup (pv 7) pe_int (fun _ _ => rfl)) (pa_cons pe_non pa_nil))))) pss_nil))) (pss_one (ps_if (pt_cmpR op_eq (pv 3) pe_str (nomark _))
      (pss_one (ps_set (i := 7) scLSpace.nd rfl (Or.inl rfl) (pe_tup (pa_cons (pe_ix ix_tup (pv 7) pe_int (fun _ _ => rfl)) (pa_cons (pe_tup (pa_cons (pv 2) (pa_cons (pe_ix ix_tup (pv 4) pe_int (fun _ _ => rfl)) pa_nil))) pa_nil))))) (pss_one (ps_if (pt_cmpR op_eq (pv 3) pe_str (nomark _))
      (pss_one (ps_set (i := 7) scLSpace.nd rfl (Or.inl rfl) (pe_tup (pa_cons (pe_ix ix_tup (pv 7) pe_int (fun _ _ => rfl)) (pa_cons pe_non pa_nil))))) (pss_one (ps_if (pt_cmpR op_eq (pv 3) pe_str (nomark _))
      (pss_cons (ps_set (i := 7) scLSpace.nd rfl (Or.inl rfl) (pe_call GK.ok hr1 (by rfl) GK.mg GK.kp GK.bd .nil pass0 (pa_cons (pv 7) (pa_cons (pe_ix ix_tup (pv 4) pe_int (fun _ _ => rfl)) (pa_cons pe_non pa_nil)))))
      (pss_one (ps_if (pt_cmpR op_notN (pe_ix ix_tup (pv 4) pe_int (fun _ _ => rfl)) pe_non (nomark _))
      (pss_one (ps_set (i := 7) scLSpace.nd rfl (Or.inl rfl) (pe_tup (pa_cons (pe_ix ix_tup (pv 7) pe_int (fun _ _ => rfl)) (pa_cons (pe_tup (pa_cons (pv 2) (pa_cons (pe_ix ix_tup (pv 4) pe_int (fun _ _ => rfl)) pa_nil))) pa_nil))))) pss_nil))) pss_nil)))))))))))))
      (pss_one (ps_ret (pe_tup (pa_cons (pv 5) (pa_cons (pv 6) (pa_cons (pv 7) pa_nil)))))))), ?_⟩
    obtain ⟨b1, b2, b3, ha, t1, t2, t3⟩ := id SA
    obtain ⟨kvs, hb1, pr, nd⟩ := id t1
    have mem := look_mem hl
    have csl : s.cs.length ≤ 900 := G.sm.cs _ mem
    have rgl : s.rg.length ≤ 900 := (G.rg _ mem).2
    rcases pr_look (R := SpcAt K H) eI_inj (k := n) pr with ⟨e0, _⟩ | ⟨s', z, e0, hz, az⟩
    · rw [hl] at e0; cases e0
    rw [hl] at e0; cases e0
    obtain ⟨p, c, fv, rfl, hp, hc, hf⟩ := az
    obtain ⟨y0, yr, rfl, d0⟩ : ∃ y0 yr, ys = y0 :: yr ∧ y0 = .int n := by
      cases b <;> first
        | (cases hn; done)
        | (cases hn; obtain ⟨x, r, rfl, e, _⟩ := dpAll_cons hfd; exact ⟨x, r, rfl, dp_int e⟩)
    subst d0
    refine ⟨_, rfl, w, .ref b1, rfl, .inl ⟨_, .inr "spaces", .inl ha, rfl, rfl⟩, _, rfl, fl, _, _, _, rfl, rfl, hfl, atI_nat (j := 0) rfl, b1, .ref p, rfl, .inl ⟨_, .inl n, .inl hb1, rfl, hz.symm⟩, p, _, rfl, hp, rfl, _, _, rfl, _, _, rfl, _, _, rfl, rfl, ?_⟩
    refine ⟨fun σ' H' => ∃ c' fv', σ' = [some (.ref w), some (.int o), some (.int h), some (.str (kindS b)), some (.ref fl), some (.int s.z), some (.ref c'), some fv'] ∧ Same H H' ∧ CellAt K H' c' (spcL o h s b).cs ∧ FenceAt K H' fv' (spcL o h s b).rg (spcL o h s b).hd, ?_, ?_⟩
    · cases b with
      | mark d => cases hn
      | make _ _ => cases hn
      | remove _ => cases hn
      | snap _ => cases hn
      | drop _ _ => cases hn
      | write n' pl x =>
        obtain ⟨x0, r0, e, _, c0⟩ := dpAll_cons hfd
        cases e
        obtain ⟨x1, r1, rfl, e1, c1⟩ := dpAll_cons c0
        obtain rfl := dp_int e1
        obtain ⟨x2, r2, rfl, e2, c2⟩ := dpAll_cons c1
        obtain rfl := dp_int e2
        obtain rfl := dpAll_nil c2
        refine ⟨_, rfl, rfl, _, rfl, chooseT str_eqT ?_⟩
        refine ⟨_, rfl, _, rfl, fl, _, _, _, rfl, rfl, hfl, atI_nat (j := 1) rfl, _, rfl, fl, _, _, _, rfl, rfl, hfl, atI_nat (j := 2) rfl, ?_⟩
        refine .inl (ch_tab (kdK K) eI_inj okI (fun _ z => z) hc (by omega) (k := pl) (v := some x) rfl ⟨(fun z => nomatch z), rfl⟩ fun c2 H1 s1 _ hc2 => ?_)
        exact ⟨c2, fv, rfl, s1, hc2, hf.tk (TK.of s1)⟩
      | trim n' pl =>
        obtain ⟨x0, r0, e, _, c0⟩ := dpAll_cons hfd
        cases e
        obtain ⟨x1, r1, rfl, e1, c1⟩ := dpAll_cons c0
        obtain rfl := dp_int e1
        obtain rfl := dpAll_nil c1
        refine ⟨_, rfl, rfl, _, rfl, chooseF (str_eqF (by dsimp only [kindS]; decide)) ?_⟩
        refine ⟨_, rfl, rfl, _, rfl, chooseT str_eqT ?_⟩
        refine ⟨_, rfl, _, rfl, fl, _, _, _, rfl, rfl, hfl, atI_nat (j := 1) rfl, ?_⟩
        refine .inl (wo_tab (kdK K) eI_inj okI hc (by omega) (k := pl) rfl fun c2 H1 s1 _ hc2 => ?_)
        exact ⟨c2, fv, rfl, s1, hc2, hf.tk (TK.of s1)⟩
      | register n' =>
        obtain ⟨x0, r0, e, _, c0⟩ := dpAll_cons hfd
        cases e
        obtain rfl := dpAll_nil c0
        refine ⟨_, rfl, rfl, _, rfl, chooseF (str_eqF (by dsimp only [kindS]; decide)) ?_⟩
        refine ⟨_, rfl, rfl, _, rfl, chooseF (str_eqF (by dsimp only [kindS]; decide)) ?_⟩
        refine ⟨_, rfl, rfl, _, rfl, chooseT str_eqT ?_⟩
        refine ⟨_, rfl, _, rfl, _, rfl, fv, h, some o, s.rg, s.hd, rfl, hf, so, rgl, fun a H1 s1 hf1 => ?_⟩
        exact ⟨c, .ref a, rfl, s1, hc.same s1, hf1⟩
      | leave n' held =>
        obtain ⟨x0, r0, e, _, c0⟩ := dpAll_cons hfd
        cases e
        obtain ⟨x1, r1, rfl, e1, c1⟩ := dpAll_cons c0
        obtain rfl := dp_bool e1
        obtain rfl := dpAll_nil c1
        refine ⟨_, rfl, rfl, _, rfl, chooseF (str_eqF (by dsimp only [kindS]; decide)) ?_⟩
        refine ⟨_, rfl, rfl, _, rfl, chooseF (str_eqF (by dsimp only [kindS]; decide)) ?_⟩
        refine ⟨_, rfl, rfl, _, rfl, chooseF (str_eqF (by dsimp only [kindS]; decide)) ?_⟩
        refine ⟨_, rfl, rfl, _, rfl, chooseT str_eqT ?_⟩
        refine ⟨_, rfl, _, rfl, fv, h, none, s.rg, s.hd, rfl, hf, so, rgl, fun a H1 s1 hf1 => ?_⟩
        refine ⟨_, rfl, fl, _, _, _, rfl, rfl, SqT_same s1 hfl, atI_nat (j := 1) rfl, held, rfl, ?_⟩
        cases held with
        | false => exact chooseF rfl ⟨c, .ref a, rfl, s1, hc.same s1, hf1⟩
        | true =>
          refine chooseT rfl ?_
          refine fence_put (hd' := none) rfl hf1 (fun H2 R s2 k => k .non H2 (Same.refl _) rfl) fun a2 H2 s2 hf2 => ?_
          exact ⟨c, .ref a2, rfl, s1.trans s2, hc.same (s1.trans s2), hf2⟩
      | reserve n' ww =>
        obtain ⟨x0, r0, e, _, c0⟩ := dpAll_cons hfd
        cases e
        obtain ⟨x1, r1, rfl, e1, c1⟩ := dpAll_cons c0
        obtain rfl := dp_strv e1
        obtain rfl := dpAll_nil c1
        refine ⟨_, rfl, rfl, _, rfl, chooseF (str_eqF (by dsimp only [kindS]; decide)) ?_⟩
        refine ⟨_, rfl, rfl, _, rfl, chooseF (str_eqF (by dsimp only [kindS]; decide)) ?_⟩
        refine ⟨_, rfl, rfl, _, rfl, chooseF (str_eqF (by dsimp only [kindS]; decide)) ?_⟩
        refine ⟨_, rfl, rfl, _, rfl, chooseF (str_eqF (by dsimp only [kindS]; decide)) ?_⟩
        refine ⟨_, rfl, rfl, _, rfl, chooseT str_eqT ?_⟩
        refine fence_put (hd' := some (h, ww)) rfl hf (fun H2 R s2 k => ⟨_, rfl, _, rfl, fl, _, _, _, rfl, rfl, SqT_same s2 hfl, atI_nat (j := 1) rfl, by show 2 ≤ sizeLine; decide, fun t ht => k (.ref t) _ (same_new ht) ⟨t, rfl, SqT.of upd_same, bok⟩⟩) fun a2 H2 s2 hf2 => ?_
        exact ⟨c, .ref a2, rfl, s2, hc.same s2, hf2⟩
      | release n' =>
        obtain ⟨x0, r0, e, _, c0⟩ := dpAll_cons hfd
        cases e
        obtain rfl := dpAll_nil c0
        refine ⟨_, rfl, rfl, _, rfl, chooseF (str_eqF (by dsimp only [kindS]; decide)) ?_⟩
        refine ⟨_, rfl, rfl, _, rfl, chooseF (str_eqF (by dsimp only [kindS]; decide)) ?_⟩
        refine ⟨_, rfl, rfl, _, rfl, chooseF (str_eqF (by dsimp only [kindS]; decide)) ?_⟩
        refine ⟨_, rfl, rfl, _, rfl, chooseF (str_eqF (by dsimp only [kindS]; decide)) ?_⟩
        refine ⟨_, rfl, rfl, _, rfl, chooseF (str_eqF (by dsimp only [kindS]; decide)) ?_⟩
        refine ⟨_, rfl, rfl, _, rfl, chooseT str_eqT ?_⟩
        refine fence_put (hd' := none) rfl hf (fun H2 R s2 k => k .non H2 (Same.refl _) rfl) fun a2 H2 s2 hf2 => ?_
        exact ⟨c, .ref a2, rfl, s2, hc.same s2, hf2⟩
      | preempt n' vv ww =>
        obtain ⟨x0, r0, e, _, c0⟩ := dpAll_cons hfd
        cases e
        obtain ⟨x1, r1, rfl, e1, c1⟩ := dpAll_cons c0
        obtain rfl := dp_int e1
        obtain ⟨x2, r2, rfl, e2, c2⟩ := dpAll_cons c1
        obtain rfl := dpAll_nil c2
        refine ⟨_, rfl, rfl, _, rfl, chooseF (str_eqF (by dsimp only [kindS]; decide)) ?_⟩
        refine ⟨_, rfl, rfl, _, rfl, chooseF (str_eqF (by dsimp only [kindS]; decide)) ?_⟩
        refine ⟨_, rfl, rfl, _, rfl, chooseF (str_eqF (by dsimp only [kindS]; decide)) ?_⟩
        refine ⟨_, rfl, rfl, _, rfl, chooseF (str_eqF (by dsimp only [kindS]; decide)) ?_⟩
        refine ⟨_, rfl, rfl, _, rfl, chooseF (str_eqF (by dsimp only [kindS]; decide)) ?_⟩
        refine ⟨_, rfl, rfl, _, rfl, chooseF (str_eqF (by dsimp only [kindS]; decide)) ?_⟩
        refine ⟨_, rfl, rfl, _, rfl, chooseT str_eqT ?_⟩
        refine ⟨_, rfl, _, rfl, fl, _, _, _, rfl, rfl, hfl, atI_nat (j := 1) rfl, fv, vv, none, s.rg, s.hd, rfl, hf, so, rgl, fun a H1 s1 hf1 => ?_⟩
        refine ⟨_, rfl, fl, _, _, _, rfl, rfl, SqT_same s1 hfl, atI_nat (j := 2) rfl, rfl, _, rfl, ?_⟩
        cases ww with
        | none =>
          obtain rfl := dp_none e2
          exact chooseF rfl ⟨c, .ref a, rfl, s1, hc.same s1, hf1⟩
        | some ww =>
          obtain rfl := dp_strv e2
          refine chooseT rfl ?_
          refine fence_put (hd' := some (h, ww)) rfl hf1 (fun H2 R s2 k => ⟨_, rfl, _, rfl, fl, _, _, _, rfl, rfl, SqT_same (s1.trans s2) hfl, atI_nat (j := 2) rfl, by show 2 ≤ sizeLine; decide, fun t ht => k (.ref t) _ (same_new ht) ⟨t, rfl, SqT.of upd_same, bok⟩⟩) fun a2 H2 s2 hf2 => ?_
          exact ⟨c, .ref a2, rfl, s1.trans s2, hc.same (s1.trans s2), hf2⟩
    · rintro σ' H' ⟨c', fv', rfl, s1, hc', hf'⟩
      refine ⟨_, rfl, _, rfl, _, rfl, by show 3 ≤ sizeLine; decide, fun t ht => ?_⟩
      have s2 := same_new (o := .tup [V.int s.z, V.ref c', fv']) ht
      have ez : (spcL o h s b).z = s.z := by cases b <;> first | rfl | (rename_i x; cases x <;> rfl)
      refine q t _ (s1.trans s2) ⟨t, c', fv', rfl, ?_, hc'.same s2, hf'.tk (TK.of s2)⟩
      rw [ez]; exact SqT.of upd_same
end
end Sg

set_option Elab.async false
set_option linter.all false
set_option maxRecDepth 100000
set_option maxHeartbeats 4000000
namespace Sg
open PySem PySem.Spec PyProof.Rows L2
/-! ### the law's own world does to a state what the effects do -/
def nsB : Bd → Option Int
  | .remove n => some n | .snap n => some n | .drop n _ => some n | b => spcN b
def toldL (st : Sta) (r : Rc) : PyData := match r.b with
  | .mark d => d
  | _ => toldOf st r.h
def markL (st : Sta) (r : Rc) : Mrk := ⟨r.s, r.c, answD (kindS r.b) r.o, toldL st r⟩
/-- the spaces and the snapshots of a record of a space that exists -/
def inL (st : Sta) (o h : Int) (s : Spc) : Bd → List (Int × Spc) × List ((Int × Int) × Cells)
  | .remove n => (delI st.sp n, st.sn.filter fun p => !decide (p.1.1 = n))
  | .snap n => (st.sp, putI st.sn (n, o) s.cs)
  | .drop n m => (st.sp, delI st.sn (n, m))
  | b => match spcN b with
    | none => (st.sp, st.sn)
    | some n => (putI st.sp n (spcL o h s b), st.sn)
def bodyL (st : Sta) (o h : Int) (b : Bd) : List (Int × Spc) × List ((Int × Int) × Cells) := match b with
  | .make n z => (putI st.sp n ⟨z, [], [], none⟩, st.sn)
  | b => match nsB b with
    | none => (st.sp, st.sn)
    | some n => match lookI st.sp n with
      | none => (st.sp, st.sn)
      | some s => inL st o h s b
def lawS (st : Sta) (r : Rc) : Sta := ⟨r.o, (bodyL st r.o r.h r.b).1, (bodyL st r.o r.h r.b).2, putI st.mr r.h (markL st r)⟩
section
variable {α β : Type} [DecidableEq α]
theorem del_put {l : List (α × β)} {k : α} {v : β} : delI (putI l k v) k = delI l k := by
  unfold putI delI
  rw [List.filter_append, List.filter_filter]
  simp
theorem put_put {l : List (α × β)} {k : α} {v w : β} : putI (putI l k v) k w = putI l k w := by
  show delI (putI l k v) k ++ _ = _
  rw [del_put]; rfl
end
theorem host_st {st : Sta} {h s c : Int} {an : PyData} : afterE (.host h s c an) st = { st with mr := putI st.mr h ⟨s, c, an, toldOf st h⟩ } := rfl
theorem after_sp {st : Sta} {e : Eff} {n : Int} (hs : spaceOf e = some n) {m : List (Int × Mrk)} : afterE e { st with mr := m } = { afterE e st with mr := m } := by
  rw [after_in hs, after_in hs]
  show (match lookI st.sp n with | none => { st with mr := m } | some s => within s e { st with mr := m }) = _
  cases lookI st.sp n with
  | none => rfl
  | some s =>
    cases e with
    | key n h k => cases k <;> rfl
    | _ => rfl
theorem one_in {st : Sta} {n h : Int} : afterE (.key n h none) st = match lookI st.sp n with | none => st | some s => { st with sp := putI st.sp n { s with rg := outR s.rg h } } := after_in (n := n) rfl
theorem two_in {st : Sta} {n h : Int} {hd : Option (Int × Str)} : afterE (.hold n hd) (afterE (.key n h none) st) = match lookI st.sp n with | none => st | some s => { st with sp := putI st.sp n { s with rg := outR s.rg h, hd := hd } } := by
  rw [one_in]
  cases hl : lookI st.sp n with
  | none =>
    simp only []
    rw [after_in (n := n) rfl, hl]
  | some s =>
    simp only []
    rw [after_in (n := n) rfl]
    show (match lookI (putI st.sp n _) n with | none => _ | some s => _) = _
    rw [look_put]
    show Sta.mk _ (putI (putI _ _ _) _ _) _ _ = _
    rw [put_put]
theorem law_eq (st : Sta) (r : Rc) : afterR st r = lawS st r := by
  unfold afterR effsR
  rw [List.foldl_cons, host_st]
  obtain ⟨o, h, s, c, b⟩ := r
  cases b with
  | mark d =>
    show afterE (.told h d) _ = _
    rw [after_told (m := ⟨s, c, answD (kindS (.mark d)) o, toldOf st h⟩) look_put]
    show Sta.mk _ _ _ (putI (putI _ _ _) _ _) = _
    rw [put_put]; rfl
  | make n z => rfl
  | remove n =>
    show afterE (.gone n o) _ = _
    rw [after_in (n := n) rfl]
    show (match lookI st.sp n with | none => _ | some s => _) = _
    unfold lawS bodyL nsB
    cases hl : lookI st.sp n with
    | none => simp only [hl]; rfl
    | some s => simp only [hl]; rfl
  | snap n =>
    show afterE (.snap n o (some o)) _ = _
    rw [after_in (n := n) rfl]
    show (match lookI st.sp n with | none => _ | some s => _) = _
    unfold lawS bodyL nsB
    cases hl : lookI st.sp n with
    | none => simp only [hl]; rfl
    | some s => simp only [hl]; rfl
  | drop n m =>
    show afterE (.snap n m none) _ = _
    rw [after_in (n := n) rfl]
    show (match lookI st.sp n with | none => _ | some s => _) = _
    unfold lawS bodyL nsB
    cases hl : lookI st.sp n with
    | none => simp only [hl]; rfl
    | some s => simp only [hl]; rfl
  | write n p v =>
    show afterE (.place n p (some v)) _ = _
    rw [after_in (n := n) rfl]
    show (match lookI st.sp n with | none => _ | some s => _) = _
    unfold lawS bodyL nsB spcN
    cases hl : lookI st.sp n with
    | none => simp only [hl]; rfl
    | some s => simp only [hl]; rfl
  | trim n p =>
    show afterE (.place n p none) _ = _
    rw [after_in (n := n) rfl]
    show (match lookI st.sp n with | none => _ | some s => _) = _
    unfold lawS bodyL nsB spcN
    cases hl : lookI st.sp n with
    | none => simp only [hl]; rfl
    | some s => simp only [hl]; rfl
  | register n =>
    show afterE (.key n h (some o)) _ = _
    rw [after_in (n := n) rfl]
    show (match lookI st.sp n with | none => _ | some s => _) = _
    unfold lawS bodyL nsB spcN
    cases hl : lookI st.sp n with
    | none => simp only [hl]; rfl
    | some s => simp only [hl]; rfl
  | reserve n w =>
    show afterE (.hold n (some (h, w))) _ = _
    rw [after_in (n := n) rfl]
    show (match lookI st.sp n with | none => _ | some s => _) = _
    unfold lawS bodyL nsB spcN
    cases hl : lookI st.sp n with
    | none => simp only [hl]; rfl
    | some s => simp only [hl]; rfl
  | release n =>
    show afterE (.hold n none) _ = _
    rw [after_in (n := n) rfl]
    show (match lookI st.sp n with | none => _ | some s => _) = _
    unfold lawS bodyL nsB spcN
    cases hl : lookI st.sp n with
    | none => simp only [hl]; rfl
    | some s => simp only [hl]; rfl
  | leave n held =>
    cases held with
    | false =>
      show afterE (.key n h none) _ = _
      rw [one_in]
      show (match lookI st.sp n with | none => _ | some s => _) = _
      unfold lawS bodyL nsB spcN
      cases hl : lookI st.sp n with
      | none => simp only [hl]; rfl
      | some s => simp only [hl]; rfl
    | true =>
      show afterE (.hold n none) (afterE (.key n h none) _) = _
      rw [two_in]
      show (match lookI st.sp n with | none => _ | some s => _) = _
      unfold lawS bodyL nsB spcN
      cases hl : lookI st.sp n with
      | none => simp only [hl]; rfl
      | some s => simp only [hl]; rfl
  | preempt n v w =>
    cases w with
    | none =>
      show afterE (.key n v none) _ = _
      rw [one_in]
      show (match lookI st.sp n with | none => _ | some s => _) = _
      unfold lawS bodyL nsB spcN
      cases hl : lookI st.sp n with
      | none => simp only [hl]; rfl
      | some s => simp only [hl]; rfl
    | some w =>
      show afterE (.hold n (some (h, w))) (afterE (.key n v none) _) = _
      rw [two_in]
      show (match lookI st.sp n with | none => _ | some s => _) = _
      unfold lawS bodyL nsB spcN
      cases hl : lookI st.sp n with
      | none => simp only [hl]; rfl
      | some s => simp only [hl]; rfl
end Sg

set_option Elab.async false
set_option linter.all false
set_option maxRecDepth 100000
set_option maxHeartbeats 4000000
namespace Sg
open PySem PySem.Spec PyProof.Rows L2
/-! ### the law's next world -/
def StepAt (K : PySem.W.Frag) (H : Hp) (stp : Addr) (r : Rc) : Prop := ∃ fl ys, SqT K H stp [.str (kindS r.b), .int r.h, .int r.s, .int r.c, .ref fl] ∧ SqT K H fl ys ∧ DpAll K H ys (fldD r.b)
def spLAfter (K : PySem.W.Frag) : Sp := fun vs H Q _ => ∃ (w stp : Addr) (st : Sta) (r : Rc), vs = [.ref w, .int r.o, .ref stp] ∧ StAt K H w st ∧ StG 900 st ∧ (∀ p ∈ st.sp, SrtR p.2.rg) ∧ StepAt K H stp r ∧ bdOk r.b ∧ ∀ D H', Same H H' → StAt K H' D (lawS st r) → Q (.ref D) H'
theorem mark_or (st : Sta) (o h s c : Int) (b : Bd) : (∃ d, b = .mark d) ∨ (¬ kindS b = "mark" ∧ toldL st ⟨o, h, s, c, b⟩ = toldOf st h) := by
  cases b with
  | mark d => exact .inl ⟨d, rfl⟩
  | _ => exact .inr ⟨by dsimp only [kindS]; decide, rfl⟩
section
variable {P : Program} {wd : World} {K : PySem.W.Frag} {mg : Str → Option Value} {base : Heap} {f fL fU fN fS : Addr} {fd fdL fdU fdN fdS : FuncData}
theorem scLAfter : FnScope ["world", "order", "step", "kind", "host", "session", "counter", "fields", "told", "mark", "spaces", "snaps", "name"] ["world", "order", "step"] (defScope sLAfter) := ⟨rfl, rfl, rfl, by decide +kernel, rfl, by decide +kernel, by decide +kernel⟩
theorem ok_lafter (F : Fun K "_law_after" "_law_after" sLAfter f fd) (B : BK mg) (GL : Def P wd K mg base CX0 "_law_with" 2 ["table","key","value"] (spChanged K) fL fdL) (GU : Def P wd K mg base CX0 "_law_without" 1 ["table","key"] (spLWithout K) fU fdU)
    (GN : Def P wd K mg base CX0 "_law_answer" 1 ["order","kind"] (spLAns K) fN fdN) (GS : Def P wd K mg base CX0 "_law_space" 3 ["world","order","host","kind","fields"] (spLSpace K) fS fdS) : FnOk P wd K mg base CX0 4 f fd ["world","order","step"] (spLAfter K) := by
  refine F.ok scLAfter (fun vs H Q E h => ?_) (fun cdv A outer s H vs Q E hr h => ?_)
  · obtain ⟨w, stp, st, r, rfl, _⟩ := h
    rfl
  · obtain ⟨w, stp, st, ⟨o, h, s', c, b⟩, rfl, SA, G, so, ⟨fl, ys, hst, hfl, hfd⟩, bok, q⟩ := h
    have hr3 : Room 3 _ := hr.mono (by decide)
    have hr2 : Room 2 _ := hr.mono (by decide)
    have hr1 : Room 1 _ := hr.mono (by decide)
    refine ⟨_, (pss_cons (ps_asg (pv 2) (pg_tup (by rfl) (pgs_cons (pg_name (i := 3) scLAfter.nd rfl (Or.inl rfl)) (pgs_cons (pg_name (i := 4) scLAfter.nd rfl (Or.inl rfl)) (pgs_cons (pg_name (i := 5) scLAfter.nd rfl (Or.inl rfl)) (pgs_cons (pg_name (i := 6) scLAfter.nd rfl (Or.inl rfl)) (pgs_cons (pg_name (i := 7) scLAfter.nd rfl (Or.inr rfl)) L2.pgs_nil)))))))
      (pss_cons (ps_set (i := 8) scLAfter.nd rfl (Or.inl rfl) (pe_ix ix_tup (pe_dget2 (hu_of hr) (pe_dget (hu_of hr) (pv 0) pe_str (fun _ _ => rfl)) (pv 4) (pe_tup (pa_cons pe_int (pa_cons pe_int (pa_cons pe_non (pa_cons pe_non pa_nil))))) ⟨rfl, rfl, rfl, rfl⟩) pe_int (fun _ _ => rfl)))
      (Evl.pss_cut (ps_if (pt_cmpR op_eq (pv 3) pe_str (nomark _))
      (pss_one (ps_set (i := 8) scLAfter.nd rfl (Or.inl rfl) (pe_ix ix_tup (pv 7) pe_int (fun _ _ => rfl)))) pss_nil)
      (pss_cons (ps_set (i := 9) scLAfter.nd rfl (Or.inl rfl) (pe_tup (pa_cons (pv 5) (pa_cons (pv 6) (pa_cons (pe_call GN.ok hr1 (by rfl) GN.mg GN.kp GN.bd .nil pass0 (pa_cons (pv 1) (pa_cons (pv 3) pa_nil))) (pa_cons (pv 8) pa_nil))))))
      (pss_cons (ps_set (i := 10) scLAfter.nd rfl (Or.inl rfl) (pe_dget (hu_of hr) (pv 0) pe_str (fun _ _ => rfl)))
      (pss_cons (ps_set (i := 11) scLAfter.nd rfl (Or.inr rfl) (pe_dget (hu_of hr) (pv 0) pe_str (fun _ _ => rfl)))
      (Evl.pss_cut (ps_if (pt_cmpR op_eq (pv 3) pe_str (nomark _))
      (pss_one (ps_set (i := 10) scLAfter.nd rfl (Or.inl rfl) (pe_call GL.ok hr2 (by rfl) GL.mg GL.kp GL.bd .nil pass0 (pa_cons (pv 10) (pa_cons (pe_ix ix_tup (pv 7) pe_int (fun _ _ => rfl)) (pa_cons (pe_tup (pa_cons (pe_ix ix_tup (pv 7) pe_int (fun _ _ => rfl)) (pa_cons pe_dnewK (pa_cons (pe_tup (pa_cons (pe_tup pa_nil) (pa_cons pe_non pa_nil))) pa_nil)))) pa_nil)))))) (pss_one (ps_if (PW.pt (pw_and (pt_cmpR op_ne (pv 3) pe_str (nomark _)) (pw_and1 (pt_cmp (pc_din (hu_of hr) (pe_ix ix_tup (pv 7) pe_int (fun _ _ => rfl)) (pv 10))))))
      (pss_one (ps_if (pt_cmpR op_eq (pv 3) pe_str (nomark _))
      (pss_cons (ps_set (i := 10) scLAfter.nd rfl (Or.inl rfl) (pe_call GU.ok hr1 (by rfl) GU.mg GU.kp GU.bd .nil pass0 (pa_cons (pv 10) (pa_cons (pe_ix ix_tup (pv 7) pe_int (fun _ _ => rfl)) pa_nil))))
      (pss_one (ps_set (i := 11) scLAfter.nd rfl (Or.inr rfl) (pe_callTy (call_dictL rfl (u2_of hr)) (by rfl) B.dict (by decide +kernel) (pa_cons (pe_lock (pe_lc (own := [("name", 12)]) (g := gName 12) (tt := tTest (tOp rNe (tOp (rIxT K) (tVar 12) (tC (.int 0))) (tOp (rIxT K) (tVar 7) (tC (.int 0))))) (te := tTup (tCons (tVar 12) (tCons (tDGet (tVar 11) (tVar 12)) tNil))) (by rfl) scLAfter.nd (pi_keys (pv 11)) (blkOk_by (own := [("name", 12)]) (N := ["world", "order", "step", "kind", "host", "session", "counter", "fields", "told", "mark", "spaces", "snaps", "name"]) (sc := defScope sLAfter) (by decide +kernel)) (fun _ _ _ _ _ => pg_name (i := 12) scLAfter.nd rfl (Or.inl rfl)) (fun _ _ _ _ _ => pts_one (by exact (pt_cmpR op_ne (pe_ix ix_tup (pv 12) pe_int (fun _ _ => rfl)) (pe_ix ix_tup (pv 7) pe_int (fun _ _ => rfl)) (nomark _)))) (fun _ _ _ _ _ => by exact (pe_tup (pa_cons (pv 12) (pa_cons (pe_dget (hu_of hr) (pv 11) (pv 12) (fun _ _ => rfl)) pa_nil)))))) pa_nil))))) (pss_one (ps_if (pt_cmpR op_eq (pv 3) pe_str (nomark _))
      (pss_one (ps_set (i := 11) scLAfter.nd rfl (Or.inr rfl) (pe_call GL.ok hr2 (by rfl) GL.mg GL.kp GL.bd .nil pass0 (pa_cons (pv 11) (pa_cons (pe_tup (pa_cons (pe_ix ix_tup (pv 7) pe_int (fun _ _ => rfl)) (pa_cons (pv 1) pa_nil))) (pa_cons (pe_callTy call_dictD (by rfl) B.dict (by decide +kernel) (pa_cons (pe_ix ix_tup (pe_dget (hu_of hr) (pv 10) (pe_ix ix_tup (pv 7) pe_int (fun _ _ => rfl)) (fun _ _ => rfl)) pe_int (fun _ _ => rfl)) pa_nil)) pa_nil)))))) (pss_one (ps_if (pt_cmpR op_eq (pv 3) pe_str (nomark _))
      (pss_one (ps_set (i := 11) scLAfter.nd rfl (Or.inr rfl) (pe_call GU.ok hr1 (by rfl) GU.mg GU.kp GU.bd .nil pass0 (pa_cons (pv 11) (pa_cons (pe_tup (pa_cons (pe_ix ix_tup (pv 7) pe_int (fun _ _ => rfl)) (pa_cons (pe_ix ix_tup (pv 7) pe_int (fun _ _ => rfl)) pa_nil))) pa_nil))))) (pss_one (ps_set (i := 10) scLAfter.nd rfl (Or.inl rfl) (pe_call GL.ok hr2 (by rfl) GL.mg GL.kp GL.bd .nil pass0 (pa_cons (pv 10) (pa_cons (pe_ix ix_tup (pv 7) pe_int (fun _ _ => rfl)) (pa_cons (pe_call GS.ok hr3 (by rfl) GS.mg GS.kp GS.bd .nil pass0 (pa_cons (pv 0) (pa_cons (pv 1) (pa_cons (pv 4) (pa_cons (pv 3) (pa_cons (pv 7) pa_nil)))))) pa_nil)))))))))))) pss_nil)))
      (pss_one (ps_ret (pe_disp (pps_cons pe_str (pv 1) (pps_cons pe_str (pv 10) (pps_cons pe_str (pv 11) (pps_cons pe_str (pe_call GL.ok hr2 (by rfl) GL.mg GL.kp GL.bd .nil pass0 (pa_cons (pe_dget (hu_of hr) (pv 0) pe_str (fun _ _ => rfl)) (pa_cons (pv 4) (pa_cons (pv 9) pa_nil)))) pps_nil)))) rfl rfl (by decide) (by decide))))))))))), ?_⟩
    obtain ⟨b1, b2, b3, ha, t1, t2, t3⟩ := id SA
    obtain ⟨kvs3, hb3, pr3, nd3⟩ := id t3
    refine ⟨_, rfl, stp, _, rfl, hst, rfl, _, _, rfl, _, _, rfl, _, _, rfl, _, _, rfl, _, _, rfl, rfl, ?_⟩
    refine ⟨_, rfl, w, .ref b3, rfl, .inl ⟨_, .inr "marks", .inl ha, rfl, rfl⟩, b3, rfl, .inl ⟨kvs3, .inl hb3⟩, _, rfl, by show 4 ≤ sizeLine; decide, fun d hd => ?_⟩
    have s1 := same_new (o := .tup [V.int 0, V.int 0, V.non, V.non]) hd
    have hd1 : (upd H d (.tup [V.int 0, V.int 0, V.non, V.non])) d = some (.tup [V.int 0, V.int 0, V.non, V.non]) := upd_same
    generalize upd H d (.tup [V.int 0, V.int 0, V.non, V.non]) = H1 at s1 hd1
    have found : ∃ o p x1 x2 x3 x4, DGet H1 b3 (.int h) o ∧ o.getD (.ref d) = .ref p ∧ SqT K H1 p [x1, x2, x3, x4] ∧ Dp K H1 x4 (toldOf st h) := by
      rcases pr_look (R := MrkAt K H) eI_inj (k := h) pr3 with ⟨e0, hz⟩ | ⟨m, z, e0, hz, az⟩
      · refine ⟨none, d, _, _, _, _, .inl ⟨_, .inl h, .inl (s1 _ _ hb3), rfl, hz.symm⟩, rfl, SqT.of hd1, ?_⟩
        unfold toldOf; rw [e0]; exact .non
      · unfold MrkAt markD at az
        cases az with
        | tup hp hd =>
          obtain ⟨x1, r1, rfl, e1, c1⟩ := dpAll_cons hd
          obtain ⟨x2, r2, rfl, e2, c2⟩ := dpAll_cons c1
          obtain ⟨x3, r3, rfl, e3, c3⟩ := dpAll_cons c2
          obtain ⟨x4, r4, rfl, e4, c4⟩ := dpAll_cons c3
          obtain rfl := dpAll_nil c4
          refine ⟨some _, _, _, _, _, _, .inl ⟨_, .inl h, .inl (s1 _ _ hb3), rfl, hz.symm⟩, rfl, SqT_same s1 hp, ?_⟩
          unfold toldOf; rw [e0]; exact dp_same s1 _ _ e4
    obtain ⟨og, p, x1, x2, x3, x4, hg, ho, hp, h4⟩ := found
    refine ⟨og, hg, ?_⟩
    rw [ho]
    refine ⟨p, _, _, _, rfl, rfl, hp, atI_nat (j := 3) rfl, ?_⟩
    refine ⟨fun σ' H' => ∃ x, σ' = [some (.ref w), some (.int o), some (.ref stp), some (.str (kindS b)), some (.int h), some (.int s'), some (.int c), some (.ref fl), some x, none, none, none, none] ∧ Same H H' ∧ Dp K H' x (toldL st ⟨o, h, s', c, b⟩), ?_, ?_⟩
    · rcases mark_or st o h s' c b with ⟨dm, rfl⟩ | ⟨hk, et⟩
      · refine ⟨_, rfl, rfl, _, rfl, chooseT str_eqT ?_⟩
        obtain ⟨x0, r0, rfl, e0, c0⟩ := dpAll_cons hfd
        exact ⟨_, rfl, fl, _, _, _, rfl, rfl, SqT_same s1 hfl, atI_nat (j := 0) rfl, x0, rfl, s1, dp_same s1 _ _ e0⟩
      · refine ⟨_, rfl, rfl, _, rfl, chooseF (str_eqF hk) ?_⟩
        exact ⟨x4, rfl, s1, by rw [et]; exact h4⟩
    rintro σ' H2 ⟨x, rfl, s2, hx⟩
    refine ⟨_, rfl, _, rfl, _, rfl, _, rfl, o, kindS b, rfl, fun v H3 s3 hv => ?_⟩
    refine ⟨_, rfl, by show 4 ≤ sizeLine; decide, fun m hm => ?_⟩
    have s4 := same_new (o := .tup [V.int s', V.int c, v, x]) hm
    have nm : MrkAt K (upd H3 m (.tup [V.int s', V.int c, v, x])) (.ref m) (markL st ⟨o, h, s', c, b⟩) := .tup (SqT.of upd_same) (.cons (.int _) (.cons (.int _) (.cons (dp_same s4 _ _ hv) (.cons (dp_same (s3.trans s4) _ _ hx) .nil))))
    have sH := s2.trans (s3.trans s4)
    generalize upd H3 m (.tup [V.int s', V.int c, v, x]) = H4 at nm sH
    clear s4 hm hv s3 hx hg hp h4 hd1 s1 hd
    refine ⟨_, rfl, w, .ref b1, rfl, .inl ⟨_, .inr "spaces", .inl (sH _ _ ha), rfl, rfl⟩, ?_⟩
    refine ⟨_, rfl, w, .ref b2, rfl, .inl ⟨_, .inr "snaps", .inl (sH _ _ ha), rfl, rfl⟩, ?_⟩
    have u1 : TabAt (kdK K) (SpcAt K) eI H4 b1 st.sp := TabAt.same (fun _ _ z => z.same sH) sH t1
    have u2 : TabAt (kdT K) (SnpAt K) eP H4 b2 st.sn := TabAt.same (fun _ _ z => z.same sH) sH t2
    have u3 : TabAt (kdK K) (MrkAt K) eI H4 b3 st.mr := TabAt.same (fun _ _ z => z.same sH) sH t3
    have gfl := SqT_same sH hfl
    have gfd := dpAll_same sH _ _ hfd
    refine ⟨fun σ' H' => ∃ c1 c2, σ' = [some (.ref w), some (.int o), some (.ref stp), some (.str (kindS b)), some (.int h), some (.int s'), some (.int c), some (.ref fl), some x, some (.ref m), some (.ref c1), some (.ref c2), none] ∧ Same H4 H' ∧ TabAt (kdK K) (SpcAt K) eI H' c1 (bodyL st o h b).1 ∧ TabAt (kdT K) (SnpAt K) eP H' c2 (bodyL st o h b).2, ?_, ?_⟩
    · cases b with
      | mark d =>
        refine ⟨_, rfl, rfl, _, rfl, chooseF (str_eqF (by dsimp only [kindS]; decide)) ?_⟩
        refine ⟨_, rfl, rfl, _, rfl, chooseF (by rw [show decide (V.str (kindS (Bd.mark d)) = V.str "mark") = true from str_eqT]; rfl) ?_⟩
        exact chooseF rfl ⟨b1, b2, rfl, Same.refl _, u1, u2⟩
      | make n z =>
        obtain ⟨y0, q0, rfl, e0, d0⟩ := dpAll_cons gfd
        obtain rfl := dp_int e0
        obtain ⟨y1, q1, rfl, e1, d1⟩ := dpAll_cons d0
        obtain rfl := dp_int e1
        obtain rfl := dpAll_nil d1
        refine ⟨_, rfl, rfl, _, rfl, chooseT str_eqT ?_⟩
        refine ⟨_, rfl, _, rfl, fl, _, _, _, rfl, rfl, gfl, atI_nat (j := 0) rfl, _, rfl, fl, _, _, _, rfl, rfl, gfl, atI_nat (j := 1) rfl, fun D0 hD0 => ?_⟩
        have s5 := same_new (o := .dK []) hD0
        have hD1 : (upd H4 D0 (.dK [])) D0 = some (.dK []) := upd_same
        generalize upd H4 D0 (.dK []) = H5 at s5 hD1
        refine ⟨by show 0 ≤ sizeLine; decide, fun g0 hg0 => ?_⟩
        have s6 := same_new (o := .tup []) hg0
        have hg1 : (upd H5 g0 (.tup [])) g0 = some (.tup []) := upd_same
        generalize upd H5 g0 (.tup []) = H6 at s6 hg1
        refine ⟨by show 2 ≤ sizeLine; decide, fun g2 hg2 => ?_⟩
        have s7 := same_new (o := .tup [V.ref g0, V.non]) hg2
        have hg3 : (upd H6 g2 (.tup [V.ref g0, V.non])) g2 = some (.tup [V.ref g0, V.non]) := upd_same
        generalize upd H6 g2 (.tup [V.ref g0, V.non]) = H7 at s7 hg3
        refine ⟨by show 3 ≤ sizeLine; decide, fun q2 hq2 => ?_⟩
        have s8 := same_new (o := .tup [V.int z, V.ref D0, V.ref g2]) hq2
        have hq3 : (upd H7 q2 (.tup [V.int z, V.ref D0, V.ref g2])) q2 = some (.tup [V.int z, V.ref D0, V.ref g2]) := upd_same
        generalize upd H7 q2 (.tup [V.int z, V.ref D0, V.ref g2]) = H8 at s8 hq3
        have s78 := s7.trans s8
        have s68 := s6.trans s78
        have s58 := s5.trans s68
        have ns : SpcAt K H8 (.ref q2) ⟨z, [], [], none⟩ := ⟨q2, D0, .ref g2, rfl, SqT.of hq3, tab_nil (s68 _ _ hD1), ⟨g2, g0, .non, rfl, SqT.of (s8 _ _ hg3), ⟨[], SqT.of (s78 _ _ hg1), .nil⟩, rfl⟩⟩
        refine .inl (ch_tab (kdK K) eI_inj okI (fun _ z => z) ((TabAt.same (fun _ _ z => z.same s58) s58 u1).frz (Same.refl _)) (by have := G.sm.sp; omega) (k := n) (v := some ⟨z, [], [], none⟩) rfl (show OptAt (fun _ => SpcAt K H8) H8 (.ref q2) (some _) from ⟨(fun z => nomatch z), ns⟩) fun c1 H9 s9 _ v1 => ?_)
        exact ⟨c1, b2, rfl, s58.trans s9, TabAt.thaw v1 (fun _ e => e) (fun _ _ z => z.same s9), TabAt.same (fun _ _ z => z.same (s58.trans s9)) (s58.trans s9) u2⟩
      | remove n =>
        obtain ⟨y0, q0, rfl, e0, d0⟩ := dpAll_cons gfd
        obtain rfl := dp_int e0
        obtain rfl := dpAll_nil d0
        refine ⟨_, rfl, rfl, _, rfl, chooseF (str_eqF (by dsimp only [kindS]; decide)) ?_⟩
        refine ⟨_, rfl, rfl, _, rfl, chooseT (by rw [str_eqF (show ¬ kindS _ = "mark" by dsimp only [kindS]; decide)]; rfl) ?_⟩
        obtain ⟨kvs1, hk1, pr1, nd1⟩ := id u1
        rcases pr_look (R := SpcAt K H4) eI_inj (k := n) pr1 with ⟨l0, hz⟩ | ⟨sp, z, l0, hz, az⟩
        · refine ⟨_, rfl, fl, _, _, _, rfl, rfl, gfl, atI_nat (j := 0) rfl, _, rfl, b1, none, rfl, .inl ⟨_, .inl n, .inl hk1, rfl, hz.symm⟩, _, rfl, chooseF rfl ?_⟩
          have eb : bodyL st o h (.remove n) = (st.sp, st.sn) := by
            unfold bodyL nsB
            simp only [l0]
          exact ⟨b1, b2, rfl, Same.refl _, by rw [eb]; exact u1, by rw [eb]; exact u2⟩
        · refine ⟨_, rfl, fl, _, _, _, rfl, rfl, gfl, atI_nat (j := 0) rfl, _, rfl, b1, some z, rfl, .inl ⟨_, .inl n, .inl hk1, rfl, hz.symm⟩, _, rfl, chooseT rfl ?_⟩
          have eb : bodyL st o h (.remove n) = inL st o h sp (.remove n) := by
            unfold bodyL nsB
            simp only [l0]
          rw [eb]
          refine ⟨_, rfl, rfl, _, rfl, chooseT str_eqT ?_⟩
          refine ⟨_, rfl, _, rfl, fl, _, _, _, rfl, rfl, gfl, atI_nat (j := 0) rfl, .inl (wo_tab (kdK K) eI_inj okI u1 (by have := G.sm.sp; omega) (k := n) rfl fun c1 H5 s5 _ v1 => ?_)⟩
          obtain ⟨kvs2, hk2, pr2, nd2⟩ := id (u2.frz s5)
          have ndk := pr_nodup eP_inj (R := SnpAt K H4) pr2 nd2
          have kl := Paired.length pr2
          refine keepL_te (kdT K) (notOf n) (show 12 < 13 by decide) (by decide) rfl hk2 ndk (by have := G.sm.sn; omega) (fun x k H' Q' hk hat t k' => ?_) fun D ps H6 s6 hD pr => ?_
          · rw [pr_keys (R := SnpAt K H4) pr2] at hk
            obtain ⟨p, hp, rfl⟩ := List.mem_map.mp hk
            obtain ⟨b, rfl, hb⟩ := hat
            refine ⟨_, rfl, b, _, _, _, rfl, rfl, SqT.of hb, atI_nat (j := 0) rfl, _, rfl, fl, _, _, _, rfl, rfl, sqT_tk (SqT_same s5 gfl) t, atI_nat (j := 0) rfl, rfl, _, rfl, ?_⟩
            have e : decide (V.int p.1.1 = V.int n) = decide (p.1.1 = n) := by
              by_cases z : p.1.1 = n
              · rw [decide_eq_true z, decide_eq_true (show V.int _ = V.int n by rw [z])]
              · rw [decide_eq_false z, decide_eq_false (show ¬ V.int _ = V.int n from fun y => z (by injection y))]
            show Q' (!decide (V.int p.1.1 = V.int n)) H'
            rw [e]; exact k'
          · refine ⟨D, ps, rfl, SqL.of hD, .inr ⟨_, Paired.imp2 (fun p kv z => (by obtain ⟨y', h1, b, e, h2⟩ := z; subst e; exact ⟨b, SqT.of h1, h2⟩)) pr, List.Nodup.sublist (List.Sublist.map _ List.filter_sublist) ndk, fun p hp => ?_⟩⟩
            have s7 := same_new (o := .dT (kvs2.filter fun p => notOf n p.1)) hp
            have s57 := s5.trans (s6.trans s7)
            exact ⟨c1, p, rfl, s57, TabAt.thaw v1 (fun u e => s7 _ _ (s6 _ _ e)) (fun _ _ z => z.same s57), ⟨_, upd_same, Paired.imp2 (fun p q z => ⟨z.1, SnpAt.same z.2 s57⟩) (pr_filt (R := SnpAt K H4) (f := notOf n) (g := fun k => !decide (k.1 = n)) (fun _ => rfl) pr2), filt_nodup nd2⟩⟩
      | write n p1 v1 =>
        obtain ⟨y0, q0, rfl, e0, d0⟩ := dpAll_cons gfd
        obtain rfl := dp_int e0
        obtain ⟨y1, q1, rfl, e1, d1⟩ := dpAll_cons d0
        obtain rfl := dp_int e1
        obtain ⟨y2, q2, rfl, e2, d2⟩ := dpAll_cons d1
        obtain rfl := dp_int e2
        obtain rfl := dpAll_nil d2
        refine ⟨_, rfl, rfl, _, rfl, chooseF (str_eqF (by dsimp only [kindS]; decide)) ?_⟩
        refine ⟨_, rfl, rfl, _, rfl, chooseT (by rw [str_eqF (show ¬ kindS _ = "mark" by dsimp only [kindS]; decide)]; rfl) ?_⟩
        obtain ⟨kvs1, hk1, pr1, nd1⟩ := id u1
        rcases pr_look (R := SpcAt K H4) eI_inj (k := n) pr1 with ⟨l0, hz⟩ | ⟨sp, z, l0, hz, az⟩
        · refine ⟨_, rfl, fl, _, _, _, rfl, rfl, gfl, atI_nat (j := 0) rfl, _, rfl, b1, none, rfl, .inl ⟨_, .inl n, .inl hk1, rfl, hz.symm⟩, _, rfl, chooseF rfl ?_⟩
          have eb : bodyL st o h (.write n p1 v1) = (st.sp, st.sn) := by
            unfold bodyL nsB spcN
            simp only [l0]
          exact ⟨b1, b2, rfl, Same.refl _, by rw [eb]; exact u1, by rw [eb]; exact u2⟩
        · refine ⟨_, rfl, fl, _, _, _, rfl, rfl, gfl, atI_nat (j := 0) rfl, _, rfl, b1, some z, rfl, .inl ⟨_, .inl n, .inl hk1, rfl, hz.symm⟩, _, rfl, chooseT rfl ?_⟩
          have eb : bodyL st o h (.write n p1 v1) = inL st o h sp (.write n p1 v1) := by
            unfold bodyL nsB spcN
            simp only [l0]
          rw [eb]
          refine ⟨_, rfl, rfl, _, rfl, chooseF (str_eqF (by dsimp only [kindS]; decide)) ?_⟩
          refine ⟨_, rfl, rfl, _, rfl, chooseF (str_eqF (by dsimp only [kindS]; decide)) ?_⟩
          refine ⟨_, rfl, rfl, _, rfl, chooseF (str_eqF (by dsimp only [kindS]; decide)) ?_⟩
          refine ⟨_, rfl, _, rfl, fl, _, _, _, rfl, rfl, gfl, atI_nat (j := 0) rfl, _, rfl, _, rfl, _, rfl, _, rfl, _, rfl, w, fl, st, o, h, n, _, _, sp, rfl, SA.same sH, G, so _ (look_mem l0), gfl, gfd, rfl, l0, bok, fun a H5 s5 hsp => ?_⟩
          refine .inl (ch_tab (kdK K) eI_inj okI (fun _ z => z) ((TabAt.same (fun _ _ z => z.same s5) s5 u1).frz (Same.refl _)) (by have := G.sm.sp; omega) (k := n) (v := some _) rfl (show OptAt (fun _ => SpcAt K H5) H5 (.ref a) (some _) from ⟨(fun z => nomatch z), hsp⟩) fun c1 H9 s9 _ v1 => ?_)
          exact ⟨c1, b2, rfl, s5.trans s9, TabAt.thaw v1 (fun _ e => e) (fun _ _ z => z.same s9), TabAt.same (fun _ _ z => z.same (s5.trans s9)) (s5.trans s9) u2⟩
      | trim n p1 =>
        obtain ⟨y0, q0, rfl, e0, d0⟩ := dpAll_cons gfd
        obtain rfl := dp_int e0
        obtain ⟨y1, q1, rfl, e1, d1⟩ := dpAll_cons d0
        obtain rfl := dp_int e1
        obtain rfl := dpAll_nil d1
        refine ⟨_, rfl, rfl, _, rfl, chooseF (str_eqF (by dsimp only [kindS]; decide)) ?_⟩
        refine ⟨_, rfl, rfl, _, rfl, chooseT (by rw [str_eqF (show ¬ kindS _ = "mark" by dsimp only [kindS]; decide)]; rfl) ?_⟩
        obtain ⟨kvs1, hk1, pr1, nd1⟩ := id u1
        rcases pr_look (R := SpcAt K H4) eI_inj (k := n) pr1 with ⟨l0, hz⟩ | ⟨sp, z, l0, hz, az⟩
        · refine ⟨_, rfl, fl, _, _, _, rfl, rfl, gfl, atI_nat (j := 0) rfl, _, rfl, b1, none, rfl, .inl ⟨_, .inl n, .inl hk1, rfl, hz.symm⟩, _, rfl, chooseF rfl ?_⟩
          have eb : bodyL st o h (.trim n p1) = (st.sp, st.sn) := by
            unfold bodyL nsB spcN
            simp only [l0]
          exact ⟨b1, b2, rfl, Same.refl _, by rw [eb]; exact u1, by rw [eb]; exact u2⟩
        · refine ⟨_, rfl, fl, _, _, _, rfl, rfl, gfl, atI_nat (j := 0) rfl, _, rfl, b1, some z, rfl, .inl ⟨_, .inl n, .inl hk1, rfl, hz.symm⟩, _, rfl, chooseT rfl ?_⟩
          have eb : bodyL st o h (.trim n p1) = inL st o h sp (.trim n p1) := by
            unfold bodyL nsB spcN
            simp only [l0]
          rw [eb]
          refine ⟨_, rfl, rfl, _, rfl, chooseF (str_eqF (by dsimp only [kindS]; decide)) ?_⟩
          refine ⟨_, rfl, rfl, _, rfl, chooseF (str_eqF (by dsimp only [kindS]; decide)) ?_⟩
          refine ⟨_, rfl, rfl, _, rfl, chooseF (str_eqF (by dsimp only [kindS]; decide)) ?_⟩
          refine ⟨_, rfl, _, rfl, fl, _, _, _, rfl, rfl, gfl, atI_nat (j := 0) rfl, _, rfl, _, rfl, _, rfl, _, rfl, _, rfl, w, fl, st, o, h, n, _, _, sp, rfl, SA.same sH, G, so _ (look_mem l0), gfl, gfd, rfl, l0, bok, fun a H5 s5 hsp => ?_⟩
          refine .inl (ch_tab (kdK K) eI_inj okI (fun _ z => z) ((TabAt.same (fun _ _ z => z.same s5) s5 u1).frz (Same.refl _)) (by have := G.sm.sp; omega) (k := n) (v := some _) rfl (show OptAt (fun _ => SpcAt K H5) H5 (.ref a) (some _) from ⟨(fun z => nomatch z), hsp⟩) fun c1 H9 s9 _ v1 => ?_)
          exact ⟨c1, b2, rfl, s5.trans s9, TabAt.thaw v1 (fun _ e => e) (fun _ _ z => z.same s9), TabAt.same (fun _ _ z => z.same (s5.trans s9)) (s5.trans s9) u2⟩
      | register n =>
        obtain ⟨y0, q0, rfl, e0, d0⟩ := dpAll_cons gfd
        obtain rfl := dp_int e0
        obtain rfl := dpAll_nil d0
        refine ⟨_, rfl, rfl, _, rfl, chooseF (str_eqF (by dsimp only [kindS]; decide)) ?_⟩
        refine ⟨_, rfl, rfl, _, rfl, chooseT (by rw [str_eqF (show ¬ kindS _ = "mark" by dsimp only [kindS]; decide)]; rfl) ?_⟩
        obtain ⟨kvs1, hk1, pr1, nd1⟩ := id u1
        rcases pr_look (R := SpcAt K H4) eI_inj (k := n) pr1 with ⟨l0, hz⟩ | ⟨sp, z, l0, hz, az⟩
        · refine ⟨_, rfl, fl, _, _, _, rfl, rfl, gfl, atI_nat (j := 0) rfl, _, rfl, b1, none, rfl, .inl ⟨_, .inl n, .inl hk1, rfl, hz.symm⟩, _, rfl, chooseF rfl ?_⟩
          have eb : bodyL st o h (.register n) = (st.sp, st.sn) := by
            unfold bodyL nsB spcN
            simp only [l0]
          exact ⟨b1, b2, rfl, Same.refl _, by rw [eb]; exact u1, by rw [eb]; exact u2⟩
        · refine ⟨_, rfl, fl, _, _, _, rfl, rfl, gfl, atI_nat (j := 0) rfl, _, rfl, b1, some z, rfl, .inl ⟨_, .inl n, .inl hk1, rfl, hz.symm⟩, _, rfl, chooseT rfl ?_⟩
          have eb : bodyL st o h (.register n) = inL st o h sp (.register n) := by
            unfold bodyL nsB spcN
            simp only [l0]
          rw [eb]
          refine ⟨_, rfl, rfl, _, rfl, chooseF (str_eqF (by dsimp only [kindS]; decide)) ?_⟩
          refine ⟨_, rfl, rfl, _, rfl, chooseF (str_eqF (by dsimp only [kindS]; decide)) ?_⟩
          refine ⟨_, rfl, rfl, _, rfl, chooseF (str_eqF (by dsimp only [kindS]; decide)) ?_⟩
          refine ⟨_, rfl, _, rfl, fl, _, _, _, rfl, rfl, gfl, atI_nat (j := 0) rfl, _, rfl, _, rfl, _, rfl, _, rfl, _, rfl, w, fl, st, o, h, n, _, _, sp, rfl, SA.same sH, G, so _ (look_mem l0), gfl, gfd, rfl, l0, bok, fun a H5 s5 hsp => ?_⟩
          refine .inl (ch_tab (kdK K) eI_inj okI (fun _ z => z) ((TabAt.same (fun _ _ z => z.same s5) s5 u1).frz (Same.refl _)) (by have := G.sm.sp; omega) (k := n) (v := some _) rfl (show OptAt (fun _ => SpcAt K H5) H5 (.ref a) (some _) from ⟨(fun z => nomatch z), hsp⟩) fun c1 H9 s9 _ v1 => ?_)
          exact ⟨c1, b2, rfl, s5.trans s9, TabAt.thaw v1 (fun _ e => e) (fun _ _ z => z.same s9), TabAt.same (fun _ _ z => z.same (s5.trans s9)) (s5.trans s9) u2⟩
      | leave n held =>
        obtain ⟨y0, q0, rfl, e0, d0⟩ := dpAll_cons gfd
        obtain rfl := dp_int e0
        obtain ⟨y1, q1, rfl, e1, d1⟩ := dpAll_cons d0
        obtain rfl := dp_bool e1
        obtain rfl := dpAll_nil d1
        refine ⟨_, rfl, rfl, _, rfl, chooseF (str_eqF (by dsimp only [kindS]; decide)) ?_⟩
        refine ⟨_, rfl, rfl, _, rfl, chooseT (by rw [str_eqF (show ¬ kindS _ = "mark" by dsimp only [kindS]; decide)]; rfl) ?_⟩
        obtain ⟨kvs1, hk1, pr1, nd1⟩ := id u1
        rcases pr_look (R := SpcAt K H4) eI_inj (k := n) pr1 with ⟨l0, hz⟩ | ⟨sp, z, l0, hz, az⟩
        · refine ⟨_, rfl, fl, _, _, _, rfl, rfl, gfl, atI_nat (j := 0) rfl, _, rfl, b1, none, rfl, .inl ⟨_, .inl n, .inl hk1, rfl, hz.symm⟩, _, rfl, chooseF rfl ?_⟩
          have eb : bodyL st o h (.leave n held) = (st.sp, st.sn) := by
            unfold bodyL nsB spcN
            simp only [l0]
          exact ⟨b1, b2, rfl, Same.refl _, by rw [eb]; exact u1, by rw [eb]; exact u2⟩
        · refine ⟨_, rfl, fl, _, _, _, rfl, rfl, gfl, atI_nat (j := 0) rfl, _, rfl, b1, some z, rfl, .inl ⟨_, .inl n, .inl hk1, rfl, hz.symm⟩, _, rfl, chooseT rfl ?_⟩
          have eb : bodyL st o h (.leave n held) = inL st o h sp (.leave n held) := by
            unfold bodyL nsB spcN
            simp only [l0]
          rw [eb]
          refine ⟨_, rfl, rfl, _, rfl, chooseF (str_eqF (by dsimp only [kindS]; decide)) ?_⟩
          refine ⟨_, rfl, rfl, _, rfl, chooseF (str_eqF (by dsimp only [kindS]; decide)) ?_⟩
          refine ⟨_, rfl, rfl, _, rfl, chooseF (str_eqF (by dsimp only [kindS]; decide)) ?_⟩
          refine ⟨_, rfl, _, rfl, fl, _, _, _, rfl, rfl, gfl, atI_nat (j := 0) rfl, _, rfl, _, rfl, _, rfl, _, rfl, _, rfl, w, fl, st, o, h, n, _, _, sp, rfl, SA.same sH, G, so _ (look_mem l0), gfl, gfd, rfl, l0, bok, fun a H5 s5 hsp => ?_⟩
          refine .inl (ch_tab (kdK K) eI_inj okI (fun _ z => z) ((TabAt.same (fun _ _ z => z.same s5) s5 u1).frz (Same.refl _)) (by have := G.sm.sp; omega) (k := n) (v := some _) rfl (show OptAt (fun _ => SpcAt K H5) H5 (.ref a) (some _) from ⟨(fun z => nomatch z), hsp⟩) fun c1 H9 s9 _ v1 => ?_)
          exact ⟨c1, b2, rfl, s5.trans s9, TabAt.thaw v1 (fun _ e => e) (fun _ _ z => z.same s9), TabAt.same (fun _ _ z => z.same (s5.trans s9)) (s5.trans s9) u2⟩
      | reserve n ww =>
        obtain ⟨y0, q0, rfl, e0, d0⟩ := dpAll_cons gfd
        obtain rfl := dp_int e0
        obtain ⟨y1, q1, rfl, e1, d1⟩ := dpAll_cons d0
        obtain rfl := dp_strv e1
        obtain rfl := dpAll_nil d1
        refine ⟨_, rfl, rfl, _, rfl, chooseF (str_eqF (by dsimp only [kindS]; decide)) ?_⟩
        refine ⟨_, rfl, rfl, _, rfl, chooseT (by rw [str_eqF (show ¬ kindS _ = "mark" by dsimp only [kindS]; decide)]; rfl) ?_⟩
        obtain ⟨kvs1, hk1, pr1, nd1⟩ := id u1
        rcases pr_look (R := SpcAt K H4) eI_inj (k := n) pr1 with ⟨l0, hz⟩ | ⟨sp, z, l0, hz, az⟩
        · refine ⟨_, rfl, fl, _, _, _, rfl, rfl, gfl, atI_nat (j := 0) rfl, _, rfl, b1, none, rfl, .inl ⟨_, .inl n, .inl hk1, rfl, hz.symm⟩, _, rfl, chooseF rfl ?_⟩
          have eb : bodyL st o h (.reserve n ww) = (st.sp, st.sn) := by
            unfold bodyL nsB spcN
            simp only [l0]
          exact ⟨b1, b2, rfl, Same.refl _, by rw [eb]; exact u1, by rw [eb]; exact u2⟩
        · refine ⟨_, rfl, fl, _, _, _, rfl, rfl, gfl, atI_nat (j := 0) rfl, _, rfl, b1, some z, rfl, .inl ⟨_, .inl n, .inl hk1, rfl, hz.symm⟩, _, rfl, chooseT rfl ?_⟩
          have eb : bodyL st o h (.reserve n ww) = inL st o h sp (.reserve n ww) := by
            unfold bodyL nsB spcN
            simp only [l0]
          rw [eb]
          refine ⟨_, rfl, rfl, _, rfl, chooseF (str_eqF (by dsimp only [kindS]; decide)) ?_⟩
          refine ⟨_, rfl, rfl, _, rfl, chooseF (str_eqF (by dsimp only [kindS]; decide)) ?_⟩
          refine ⟨_, rfl, rfl, _, rfl, chooseF (str_eqF (by dsimp only [kindS]; decide)) ?_⟩
          refine ⟨_, rfl, _, rfl, fl, _, _, _, rfl, rfl, gfl, atI_nat (j := 0) rfl, _, rfl, _, rfl, _, rfl, _, rfl, _, rfl, w, fl, st, o, h, n, _, _, sp, rfl, SA.same sH, G, so _ (look_mem l0), gfl, gfd, rfl, l0, bok, fun a H5 s5 hsp => ?_⟩
          refine .inl (ch_tab (kdK K) eI_inj okI (fun _ z => z) ((TabAt.same (fun _ _ z => z.same s5) s5 u1).frz (Same.refl _)) (by have := G.sm.sp; omega) (k := n) (v := some _) rfl (show OptAt (fun _ => SpcAt K H5) H5 (.ref a) (some _) from ⟨(fun z => nomatch z), hsp⟩) fun c1 H9 s9 _ v1 => ?_)
          exact ⟨c1, b2, rfl, s5.trans s9, TabAt.thaw v1 (fun _ e => e) (fun _ _ z => z.same s9), TabAt.same (fun _ _ z => z.same (s5.trans s9)) (s5.trans s9) u2⟩
      | release n =>
        obtain ⟨y0, q0, rfl, e0, d0⟩ := dpAll_cons gfd
        obtain rfl := dp_int e0
        obtain rfl := dpAll_nil d0
        refine ⟨_, rfl, rfl, _, rfl, chooseF (str_eqF (by dsimp only [kindS]; decide)) ?_⟩
        refine ⟨_, rfl, rfl, _, rfl, chooseT (by rw [str_eqF (show ¬ kindS _ = "mark" by dsimp only [kindS]; decide)]; rfl) ?_⟩
        obtain ⟨kvs1, hk1, pr1, nd1⟩ := id u1
        rcases pr_look (R := SpcAt K H4) eI_inj (k := n) pr1 with ⟨l0, hz⟩ | ⟨sp, z, l0, hz, az⟩
        · refine ⟨_, rfl, fl, _, _, _, rfl, rfl, gfl, atI_nat (j := 0) rfl, _, rfl, b1, none, rfl, .inl ⟨_, .inl n, .inl hk1, rfl, hz.symm⟩, _, rfl, chooseF rfl ?_⟩
          have eb : bodyL st o h (.release n) = (st.sp, st.sn) := by
            unfold bodyL nsB spcN
            simp only [l0]
          exact ⟨b1, b2, rfl, Same.refl _, by rw [eb]; exact u1, by rw [eb]; exact u2⟩
        · refine ⟨_, rfl, fl, _, _, _, rfl, rfl, gfl, atI_nat (j := 0) rfl, _, rfl, b1, some z, rfl, .inl ⟨_, .inl n, .inl hk1, rfl, hz.symm⟩, _, rfl, chooseT rfl ?_⟩
          have eb : bodyL st o h (.release n) = inL st o h sp (.release n) := by
            unfold bodyL nsB spcN
            simp only [l0]
          rw [eb]
          refine ⟨_, rfl, rfl, _, rfl, chooseF (str_eqF (by dsimp only [kindS]; decide)) ?_⟩
          refine ⟨_, rfl, rfl, _, rfl, chooseF (str_eqF (by dsimp only [kindS]; decide)) ?_⟩
          refine ⟨_, rfl, rfl, _, rfl, chooseF (str_eqF (by dsimp only [kindS]; decide)) ?_⟩
          refine ⟨_, rfl, _, rfl, fl, _, _, _, rfl, rfl, gfl, atI_nat (j := 0) rfl, _, rfl, _, rfl, _, rfl, _, rfl, _, rfl, w, fl, st, o, h, n, _, _, sp, rfl, SA.same sH, G, so _ (look_mem l0), gfl, gfd, rfl, l0, bok, fun a H5 s5 hsp => ?_⟩
          refine .inl (ch_tab (kdK K) eI_inj okI (fun _ z => z) ((TabAt.same (fun _ _ z => z.same s5) s5 u1).frz (Same.refl _)) (by have := G.sm.sp; omega) (k := n) (v := some _) rfl (show OptAt (fun _ => SpcAt K H5) H5 (.ref a) (some _) from ⟨(fun z => nomatch z), hsp⟩) fun c1 H9 s9 _ v1 => ?_)
          exact ⟨c1, b2, rfl, s5.trans s9, TabAt.thaw v1 (fun _ e => e) (fun _ _ z => z.same s9), TabAt.same (fun _ _ z => z.same (s5.trans s9)) (s5.trans s9) u2⟩
      | preempt n v1 ww =>
        obtain ⟨y0, q0, rfl, e0, d0⟩ := dpAll_cons gfd
        obtain rfl := dp_int e0
        obtain ⟨y1, q1, rfl, e1, d1⟩ := dpAll_cons d0
        obtain rfl := dp_int e1
        obtain ⟨y2, q2, rfl, e2, d2⟩ := dpAll_cons d1
        obtain rfl := dpAll_nil d2
        refine ⟨_, rfl, rfl, _, rfl, chooseF (str_eqF (by dsimp only [kindS]; decide)) ?_⟩
        refine ⟨_, rfl, rfl, _, rfl, chooseT (by rw [str_eqF (show ¬ kindS _ = "mark" by dsimp only [kindS]; decide)]; rfl) ?_⟩
        obtain ⟨kvs1, hk1, pr1, nd1⟩ := id u1
        rcases pr_look (R := SpcAt K H4) eI_inj (k := n) pr1 with ⟨l0, hz⟩ | ⟨sp, z, l0, hz, az⟩
        · refine ⟨_, rfl, fl, _, _, _, rfl, rfl, gfl, atI_nat (j := 0) rfl, _, rfl, b1, none, rfl, .inl ⟨_, .inl n, .inl hk1, rfl, hz.symm⟩, _, rfl, chooseF rfl ?_⟩
          have eb : bodyL st o h (.preempt n v1 ww) = (st.sp, st.sn) := by
            unfold bodyL nsB spcN
            simp only [l0]
          exact ⟨b1, b2, rfl, Same.refl _, by rw [eb]; exact u1, by rw [eb]; exact u2⟩
        · refine ⟨_, rfl, fl, _, _, _, rfl, rfl, gfl, atI_nat (j := 0) rfl, _, rfl, b1, some z, rfl, .inl ⟨_, .inl n, .inl hk1, rfl, hz.symm⟩, _, rfl, chooseT rfl ?_⟩
          have eb : bodyL st o h (.preempt n v1 ww) = inL st o h sp (.preempt n v1 ww) := by
            unfold bodyL nsB spcN
            simp only [l0]
          rw [eb]
          refine ⟨_, rfl, rfl, _, rfl, chooseF (str_eqF (by dsimp only [kindS]; decide)) ?_⟩
          refine ⟨_, rfl, rfl, _, rfl, chooseF (str_eqF (by dsimp only [kindS]; decide)) ?_⟩
          refine ⟨_, rfl, rfl, _, rfl, chooseF (str_eqF (by dsimp only [kindS]; decide)) ?_⟩
          refine ⟨_, rfl, _, rfl, fl, _, _, _, rfl, rfl, gfl, atI_nat (j := 0) rfl, _, rfl, _, rfl, _, rfl, _, rfl, _, rfl, w, fl, st, o, h, n, _, _, sp, rfl, SA.same sH, G, so _ (look_mem l0), gfl, gfd, rfl, l0, bok, fun a H5 s5 hsp => ?_⟩
          refine .inl (ch_tab (kdK K) eI_inj okI (fun _ z => z) ((TabAt.same (fun _ _ z => z.same s5) s5 u1).frz (Same.refl _)) (by have := G.sm.sp; omega) (k := n) (v := some _) rfl (show OptAt (fun _ => SpcAt K H5) H5 (.ref a) (some _) from ⟨(fun z => nomatch z), hsp⟩) fun c1 H9 s9 _ v1 => ?_)
          exact ⟨c1, b2, rfl, s5.trans s9, TabAt.thaw v1 (fun _ e => e) (fun _ _ z => z.same s9), TabAt.same (fun _ _ z => z.same (s5.trans s9)) (s5.trans s9) u2⟩
      | snap n =>
        obtain ⟨y0, q0, rfl, e0, d0⟩ := dpAll_cons gfd
        obtain rfl := dp_int e0
        obtain rfl := dpAll_nil d0
        refine ⟨_, rfl, rfl, _, rfl, chooseF (str_eqF (by dsimp only [kindS]; decide)) ?_⟩
        refine ⟨_, rfl, rfl, _, rfl, chooseT (by rw [str_eqF (show ¬ kindS _ = "mark" by dsimp only [kindS]; decide)]; rfl) ?_⟩
        obtain ⟨kvs1, hk1, pr1, nd1⟩ := id u1
        rcases pr_look (R := SpcAt K H4) eI_inj (k := n) pr1 with ⟨l0, hz⟩ | ⟨sp, z, l0, hz, az⟩
        · refine ⟨_, rfl, fl, _, _, _, rfl, rfl, gfl, atI_nat (j := 0) rfl, _, rfl, b1, none, rfl, .inl ⟨_, .inl n, .inl hk1, rfl, hz.symm⟩, _, rfl, chooseF rfl ?_⟩
          have eb : bodyL st o h (.snap n) = (st.sp, st.sn) := by
            unfold bodyL nsB
            simp only [l0]
          exact ⟨b1, b2, rfl, Same.refl _, by rw [eb]; exact u1, by rw [eb]; exact u2⟩
        · refine ⟨_, rfl, fl, _, _, _, rfl, rfl, gfl, atI_nat (j := 0) rfl, _, rfl, b1, some z, rfl, .inl ⟨_, .inl n, .inl hk1, rfl, hz.symm⟩, _, rfl, chooseT rfl ?_⟩
          have eb : bodyL st o h (.snap n) = inL st o h sp (.snap n) := by
            unfold bodyL nsB
            simp only [l0]
          rw [eb]
          refine ⟨_, rfl, rfl, _, rfl, chooseF (str_eqF (by dsimp only [kindS]; decide)) ?_⟩
          refine ⟨_, rfl, rfl, _, rfl, chooseT str_eqT ?_⟩
          obtain ⟨p, cc, fv, rfl, hp, ⟨kc, hcc, prc, ndc⟩, hf⟩ := az
          refine ⟨_, rfl, _, rfl, fl, _, _, _, rfl, rfl, gfl, atI_nat (j := 0) rfl, _, rfl, by show 2 ≤ sizeLine; decide, fun k hk => ?_⟩
          have s5 := same_new (o := .tup [V.int n, V.int o]) hk
          have hk1' : (upd H4 k (.tup [V.int n, V.int o])) k = some (.tup [V.int n, V.int o]) := upd_same
          generalize upd H4 k (.tup [V.int n, V.int o]) = H5 at s5 hk1'
          refine ⟨_, rfl, _, rfl, fl, _, _, _, rfl, rfl, SqT_same s5 gfl, atI_nat (j := 0) rfl, b1, .ref p, rfl, .inl ⟨_, .inl n, .inl (s5 _ _ hk1), rfl, hz.symm⟩, p, _, _, _, rfl, rfl, SqT_same s5 hp, atI_nat (j := 1) rfl, cc, kc, rfl, .inl (s5 _ _ hcc), fun d hd => ?_⟩
          have s6 := same_new (o := .dK kc) hd
          have hd1 : (upd H5 d (.dK kc)) d = some (.dK kc) := upd_same
          generalize upd H5 d (.dK kc) = H6 at s6 hd1
          have s56 := s5.trans s6
          refine .inr (ch_tab (kdT K) eP_inj okP (fun _ z => z) ((TabAt.same (fun _ _ z => z.same s56) s56 u2).frz (Same.refl _)) (by have := G.sm.sn; omega) (k := (n, o)) (v := some sp.cs) ⟨k, rfl, s6 _ _ hk1'⟩ (show OptAt (fun _ => SnpAt K H6) H6 (.ref d) (some _) from ⟨(fun z => nomatch z), d, rfl, kc, hd1, prc, ndc⟩) fun c1 H9 s9 _ v1 => ?_)
          exact ⟨b1, c1, rfl, s56.trans s9, TabAt.same (fun _ _ z => z.same (s56.trans s9)) (s56.trans s9) u1, TabAt.thaw v1 (fun _ e => e) (fun _ _ z => z.same s9)⟩
      | drop n m1 =>
        obtain ⟨y0, q0, rfl, e0, d0⟩ := dpAll_cons gfd
        obtain rfl := dp_int e0
        obtain ⟨y1, q1, rfl, e1, d1⟩ := dpAll_cons d0
        obtain rfl := dp_int e1
        obtain rfl := dpAll_nil d1
        refine ⟨_, rfl, rfl, _, rfl, chooseF (str_eqF (by dsimp only [kindS]; decide)) ?_⟩
        refine ⟨_, rfl, rfl, _, rfl, chooseT (by rw [str_eqF (show ¬ kindS _ = "mark" by dsimp only [kindS]; decide)]; rfl) ?_⟩
        obtain ⟨kvs1, hk1, pr1, nd1⟩ := id u1
        rcases pr_look (R := SpcAt K H4) eI_inj (k := n) pr1 with ⟨l0, hz⟩ | ⟨sp, z, l0, hz, az⟩
        · refine ⟨_, rfl, fl, _, _, _, rfl, rfl, gfl, atI_nat (j := 0) rfl, _, rfl, b1, none, rfl, .inl ⟨_, .inl n, .inl hk1, rfl, hz.symm⟩, _, rfl, chooseF rfl ?_⟩
          have eb : bodyL st o h (.drop n m1) = (st.sp, st.sn) := by
            unfold bodyL nsB
            simp only [l0]
          exact ⟨b1, b2, rfl, Same.refl _, by rw [eb]; exact u1, by rw [eb]; exact u2⟩
        · refine ⟨_, rfl, fl, _, _, _, rfl, rfl, gfl, atI_nat (j := 0) rfl, _, rfl, b1, some z, rfl, .inl ⟨_, .inl n, .inl hk1, rfl, hz.symm⟩, _, rfl, chooseT rfl ?_⟩
          have eb : bodyL st o h (.drop n m1) = inL st o h sp (.drop n m1) := by
            unfold bodyL nsB
            simp only [l0]
          rw [eb]
          refine ⟨_, rfl, rfl, _, rfl, chooseF (str_eqF (by dsimp only [kindS]; decide)) ?_⟩
          refine ⟨_, rfl, rfl, _, rfl, chooseF (str_eqF (by dsimp only [kindS]; decide)) ?_⟩
          refine ⟨_, rfl, rfl, _, rfl, chooseT str_eqT ?_⟩
          refine ⟨_, rfl, _, rfl, fl, _, _, _, rfl, rfl, gfl, atI_nat (j := 0) rfl, _, rfl, fl, _, _, _, rfl, rfl, gfl, atI_nat (j := 1) rfl, by show 2 ≤ sizeLine; decide, fun k hk => ?_⟩
          have s5 := same_new (o := .tup [V.int n, V.int m1]) hk
          have hk1' : (upd H4 k (.tup [V.int n, V.int m1])) k = some (.tup [V.int n, V.int m1]) := upd_same
          generalize upd H4 k (.tup [V.int n, V.int m1]) = H5 at s5 hk1'
          refine .inr (wo_tab (kdT K) eP_inj okP (TabAt.same (fun _ _ z => z.same s5) s5 u2) (by have := G.sm.sn; omega) (k := (n, m1)) ⟨k, rfl, hk1'⟩ fun c1 H6 s6 _ v1 => ?_)
          exact ⟨b1, c1, rfl, s5.trans s6, TabAt.same (fun _ _ z => z.same (s5.trans s6)) (s5.trans s6) u1, TabAt.thaw v1 (fun _ e => e) (fun _ _ z => z.same s6)⟩
    · rintro σ' H5 ⟨c1, c2, rfl, s5, v1, v2⟩
      intro D hD
      have s6 := same_new (o := .dK []) hD
      have hD6 : (upd H5 D (.dK [])) D = some (.dK []) := upd_same
      generalize upd H5 D (.dK []) = H6 at s6 hD6
      have s56 := s5.trans s6
      have w3 : TabAt (kdK K) (fun _ => MrkAt K H5) eI H6 b3 st.mr := (TabAt.same (fun _ _ z => z.same s5) s5 u3).frz s6
      refine ⟨_, rfl, _, rfl, _, rfl, _, rfl, w, .ref b3, rfl, .inl ⟨_, .inr "marks", .inl ((sH.trans s56) _ _ ha), rfl, rfl⟩, _, rfl, _, rfl, .inl (ch_tab (kdK K) eI_inj okI (fun _ z => z) w3 (by have := G.sm.mr; omega) (k := h) (v := some (markL st ⟨o, h, s', c, b⟩)) rfl (show OptAt (fun _ => MrkAt K H5) H6 (.ref m) (some _) from ⟨(fun z => nomatch z), nm.same s5⟩) fun c3 H7 s7 hc3 x3 => ?_)⟩
      refine ⟨s7 _ _ hD6, stK o c1 c2 c3, rfl, by show 4 ≤ 15; decide, ?_⟩
      have n3 : c3 ≠ D := fun e => by rw [e, hD6] at hc3; cases hc3
      have sF : Same H5 (upd H7 D (.dK (mergeK [] (stK o c1 c2 c3)))) := fun a u e => by
        have : a ≠ D := fun z => by rw [z, hD] at e; cases e
        rw [upd_ne this]; exact s7 _ _ (s6 _ _ e)
      refine q D _ (sH.trans (s5.trans sF)) ⟨c1, c2, c3, upd_same, TabAt.same (fun _ _ z => z.same sF) sF v1, TabAt.same (fun _ _ z => z.same sF) sF v2, x3.thaw (fun u e => by rw [upd_ne n3]; exact e) (fun _ _ z => z.same sF)⟩
end
end Sg

set_option Elab.async false
set_option linter.all false
set_option maxRecDepth 100000
set_option maxHeartbeats 4000000
namespace Sg
open PySem PySem.Spec PyProof.Rows L2
/-! ### == of two tables whose keys are tuples, alike entry for entry -/
section
variable {prog : Program} {w : World} {κ : Type} [DecidableEq κ] {knd : HeapKind prog w κ} {A : Around} {E : Value → Shared → Prop} {s : Shared}
/-- alike at the place i -/
def LikeAt (prog : Program) (w : World) (A : Around) (s : Shared) (xs ys : List (κ × Addr × Value)) : Prop := xs.length = ys.length ∧ ∀ (i : Nat) x y, xs[i]? = some x → ys[i]? = some y → x.1 = y.1 ∧ SeqAt.EqP prog w A s x.2.2 y.2.2 true
theorem same_tabs {nm : String} {a b : Addr} {xs ys : List (κ × Addr × Value)} {Q : Bool → Shared → Prop} (na : (a == sysModules) = false) (nb : (b == sysModules) = false) (hx : s.heap.DictOfH knd a xs) (hy : s.heap.DictOfH knd b ys) (hu : knd.room A) (lk : LikeAt prog w A s xs ys) (h : Q true s) :
    wpAny (model prog w) A (Builtin.Dict.samePairs nm a b) Q E s := by
  obtain ⟨oa, ea, pa, ga, _, da, la, ka, _⟩ := hx
  obtain ⟨ob, eb, pb, gb, _, db, lb, kb, nd⟩ := hy
  have za := size_of_entries la
  have zb := size_of_entries lb
  have zz : ea.size = eb.size := by rw [za, zb, lk.1]
  unfold Builtin.Dict.samePairs Builtin.Dict.showsAll
  rw [if_neg (by rw [na]; exact Bool.false_ne_true), if_neg (by rw [nb]; exact Bool.false_ne_true)]
  refine wpAny_bind (wpAny_pure (wpAny_bind (wpAny_pure (wpAny_bind (wpAny_dictEntries ga da ?_)))))
  dsimp only
  refine wpAny_bind (wpAny_dictEntries gb db ?_)
  rw [if_neg (by rw [zz]; simp)]
  refine wpAny_bind (wpAny_dictEpoch ga da (wpAny_bind ?_))
  rw [Std.Legacy.Range.forIn_eq_forIn_range']
  simp only [Std.Legacy.Range.size, Nat.sub_zero, Nat.add_sub_cancel, Nat.div_one]
  refine wpAny_forIn_list _ (fun rest q u => u = s ∧ q = (none, ()) ∧ ∃ i, rest = List.range' i (ea.size - i) ∧ i ≤ ea.size) _ ?_ ?_ _ _ ⟨rfl, rfl, 0, by simp, Nat.zero_le _⟩
  · rintro i rest q u ⟨rfl, rfl, j, hr, _⟩
    have lt : j < ea.size := by
      rcases Nat.lt_or_ge j ea.size with c | c
      · exact c
      · rw [Nat.sub_eq_zero_of_le c] at hr; simp at hr
    rw [show ea.size - j = (ea.size - (j + 1)) + 1 from by omega, List.range'_succ] at hr
    obtain ⟨rfl, hrest⟩ := List.cons.inj hr
    obtain ⟨x, hxi⟩ : ∃ x, xs[i]? = some x := ⟨xs[i]'(by omega), List.getElem?_eq_getElem (by omega)⟩
    obtain ⟨y, hyi⟩ : ∃ y, ys[i]? = some y := ⟨ys[i]'(by omega), List.getElem?_eq_getElem (by omega)⟩
    obtain ⟨ek, eq⟩ := lk.2 i x y hxi hyi
    have enx : ea[i]? = some (entryOfKey knd x) := by rw [entry_at la i, hxi]; rfl
    refine wpAny_bind (wpAny_dictEntries ga da ?_)
    rw [enx]
    have hkx := ka x (List.mem_of_getElem? hxi)
    refine wpAny_bind (wpAny_holding (wpAny_bind (wpAny_dictFind_heap hu hkx gb db lb kb nd (fun no => absurd (show ys[i]? = some (x.1, y.2) by rw [hyi, ek]) (no i y.2)) fun j' p hj' => ?_)))
    have ji : j' = i := by
      have e1 : (ys.map (·.1))[j']? = some x.1 := by rw [List.getElem?_map, hj']; rfl
      have e2 : (ys.map (·.1))[i]? = some x.1 := by rw [List.getElem?_map, hyi, ek]; rfl
      have l1 := (List.getElem?_eq_some_iff.mp e1).1
      have l2 := (List.getElem?_eq_some_iff.mp e2).1
      have ee := (List.getElem?_eq_some_iff.mp e1).2.trans (List.getElem?_eq_some_iff.mp e2).2.symm
      rcases Nat.lt_trichotomy j' i with c | c | c
      · exact absurd ee ((List.pairwise_iff_getElem.mp nd) j' i l1 l2 c)
      · exact c
      · exact absurd ee.symm ((List.pairwise_iff_getElem.mp nd) i j' l2 l1 c)
    subst ji
    have eny : eb[j']? = some (entryOfKey knd y) := by rw [entry_at lb j', hyi]; rfl
    refine wpAny_bind (wpAny_dictEntries gb db ?_)
    rw [eny]
    refine wpAny_holding (eq _ _ ?_)
    show wpAny _ _ (if (!true) = true then _ else _) _ _ _
    rw [if_neg (by decide)]
    refine wpAny_bind (wpAny_dictEpoch ga da ?_)
    rw [if_neg (by simp)]
    exact wpAny_pure ⟨rfl, rfl, j' + 1, hrest, lt⟩
  · rintro q u ⟨rfl, rfl, _⟩
    exact wpAny_pure h
theorem eq_tabs {a b : Addr} {xs ys : List (κ × Addr × Value)} (na : (a == sysModules) = false) (nb : (b == sysModules) = false) (hx : s.heap.DictOfH knd a xs) (hy : s.heap.DictOfH knd b ys) (hu0 : A.units < cLine) (hu : knd.room A.in1) (lk : LikeAt prog w A.in1 s xs ys) (E Q : Value → Shared → Prop) (h : Q (.bool true) s) :
    wpAny (model prog w) A (richCompare .Eq (.ref a) (.ref b)) Q E s := by
  refine wpAny_richCompare_same_room (op := .Eq) hx.typeIs hy.typeIs PySem.F.slot_dict_eq (wpAny_call_entry PySem.F.slot_dict_eq hx.typeIs PySem.F.entry_dict_eq ?_ (PySem.F.args_dict_eq_2 _ _)) hu0
  show wpAny _ _ (Builtin.Dict.dictSlotArgs "__eq__" ⟨[.ref a, .ref b], []⟩ >>= _) _ _ s
  unfold Builtin.Dict.dictSlotArgs
  refine wpAny_bind (wpAny_bind (wpAny_notOrdered_dict hx.typeIs ?_))
  show wpAny _ _ (pure (Value.ref a, Value.ref b)) _ _ s
  refine wpAny_pure (wpAny_bind (wpAny_isInstance (T := "dict") hy.typeIs PySem.F.sub_dict_dict ?_))
  simp only [Bool.not_true, Bool.false_eq_true, if_false]
  refine wpAny_bind (wpAny_pure (wpAny_bind (wpAny_pure (wpAny_bind (same_tabs na nb hx hy hu lk ?_)))))
  exact wpAny_pure ⟨_, rfl, (fun x => nomatch x), h⟩
end
end Sg

set_option Elab.async false
set_option linter.all false
set_option maxRecDepth 100000
set_option maxHeartbeats 4000000
namespace Sg
open PySem PySem.Spec PyProof.Rows L2
/-! ### == of nested tables, alike entry for entry -/
def EqT (K : PySem.W.Frag) (H : Hp) (E : V → V → Prop) (x y : V) : Prop :=
  (∃ a b xs ys, x = .ref a ∧ y = .ref b ∧ SqT K H a xs ∧ SqT K H b ys ∧ Paired E xs ys) ∨
  (∃ a b ks ls, x = .ref a ∧ y = .ref b ∧ H a = some (.dK ks) ∧ H b = some (.dK ls) ∧ ks.length = ls.length ∧ ∀ p ∈ ks, ∃ u, valV ls p.1 = some u ∧ E p.2 u) ∨
  ∃ a b ks ls, x = .ref a ∧ y = .ref b ∧ H a = some (.dT ks) ∧ H b = some (.dT ls) ∧ Paired (fun p q => p.1 = q.1 ∧ E p.2 q.2) ks ls
def EqS (K : PySem.W.Frag) (H : Hp) : Nat → V → V → Prop
  | 0 => fun _ _ => False
  | n + 1 => fun x y => (∃ d, Dp K H x d ∧ Dp K H y d ∧ d.canLay0 = true ∧ d.depth ≤ 64) ∨ EqT K H (EqS K H n) x y
theorem like_at {P : Program} {w : World} {A : Around} {s : Shared} {H : Hp} {F : V → V → Prop} (ih : ∀ x y v u, F x y → RelV x v → RelV y u → SeqAt.EqP P w A s v u true) {ks ls : List (List Key × V)} (h : Paired (fun p q => p.1 = q.1 ∧ F p.2 q.2) ks ls) {xs ys : List (List Key × Addr × Value)} (rx : KT H ks xs) (ry : KT H ls ys) : LikeAt P w A s xs ys := by
  have l1 := Paired.length rx
  have l2 := Paired.length ry
  have l3 := Paired.length h
  refine ⟨by omega, fun i x y hx hy => ?_⟩
  have il := (List.getElem?_eq_some_iff.mp hx).1
  have jl := (List.getElem?_eq_some_iff.mp hy).1
  obtain ⟨x', hx', q1, _, q3⟩ := paired_get rx (show ks[i]? = some (ks[i]'(by omega)) from List.getElem?_eq_getElem (by omega))
  obtain ⟨y', hy', r1, _, r3⟩ := paired_get ry (show ls[i]? = some (ls[i]'(by omega)) from List.getElem?_eq_getElem (by omega))
  rw [hx] at hx'; cases hx'
  rw [hy] at hy'; cases hy'
  obtain ⟨z, hz, t1, t2⟩ := paired_get h (show ks[i]? = some (ks[i]'(by omega)) from List.getElem?_eq_getElem (by omega))
  rw [List.getElem?_eq_getElem (by omega)] at hz
  cases hz
  exact ⟨q1.symm.trans (t1.trans r1), ih _ _ _ _ t2 q3 r3⟩
section
variable {X : Cx} {pins : List (Addr × Obj)} {σ : L2.St} {H : Hp} {s : Shared}
theorem eqT_run (I : L2.Inv X pins σ H s) {A : Around} {F : V → V → Prop} (hu : A.units + 1 < cLine) (ih : ∀ x y v u, F x y → RelV x v → RelV y u → SeqAt.EqP X.prog X.w A.in1 s v u true) {x y : V} {v u : Value} (h : EqT X.K H F x y) (rx : RelV x v) (ry : RelV y u)
    (E Q : Value → Shared → Prop) (q : Q (.bool true) s) : wpAny (model X.prog X.w) A (richCompare .Eq v u) Q E s := by
  rcases h with ⟨a, b, xs, ys, rfl, rfl, ha, hb, hp⟩ | ⟨a, b, ks, ls, rfl, rfl, ha, hb, hl, hp⟩ | ⟨a, b, ks, ls, rfl, rfl, ha, hb, hp⟩
  · obtain rfl : v = Value.ref a := rx
    obtain rfl : u = Value.ref b := ry
    obtain ⟨its, r, e, z⟩ := I.tuple ha
    obtain ⟨its2, r2, e2, z2⟩ := I.tuple hb
    have hsz : its.toArray.size = its2.toArray.size := by rw [List.size_toArray, List.size_toArray, ← r.length, ← r2.length]; exact Paired.length hp
    refine GQ.rc_tupG hsz (by omega) (fun _ s' => s' = s) e e2 (fun i h1 h2 s' es => ?_) (fun s' es => by subst es; exact q) rfl
    subst es
    exact items_run ih hp r r2 i (by simpa using h1) (by simpa using h2) _ _ ⟨rfl, rfl⟩
  · obtain rfl : v = Value.ref a := rx
    obtain rfl : u = Value.ref b := ry
    obtain ⟨_, ya, va, ra, da⟩ := (show ObjOk X.prog X.w H s.heap a (.dK ks) from I.hok a _ ha)
    obtain ⟨_, yb, vb, rb, db⟩ := (show ObjOk X.prog X.w H s.heap b (.dK ls) from I.hok b _ hb)
    refine PySem.W.rcP_dicts (knd := mixKind X.prog X.w) (r := true) ya yb da db (by omega) (fun _ => hits_run ih rb ra hp) E Q ?_
    have e : va.length = vb.length := by rw [← ra.length, ← rb.length]; exact hl
    rw [show (va.length == vb.length && true) = true from by rw [e]; simp]
    exact q
  · obtain rfl : v = Value.ref a := rx
    obtain rfl : u = Value.ref b := ry
    obtain ⟨_, ya, va, ra, da⟩ := dt_of I.hok ha
    obtain ⟨_, yb, vb, rb, db⟩ := dt_of I.hok hb
    exact eq_tabs (knd := tupleKind (mixKind X.prog X.w)) ya yb da db (by omega) (tupleKind_room_in1 hu) (like_at ih hp ra rb) E Q q
theorem eqS_run (I : L2.Inv X pins σ H s) : ∀ (n : Nat) (A : Around), A.units + n + 65 < cLine → ∀ (x y : V) (v u : Value), EqS X.K H n x y → RelV x v → RelV y u → SeqAt.EqP X.prog X.w A s v u true
  | 0, _, _, _, _, _, _, h, _, _ => (show False from h).elim
  | n + 1, A, hu, x, y, v, u, h, rx, ry => by
    rcases h with ⟨d, hd, he, hl, hdp⟩ | h
    · obtain ⟨as, r1⟩ := Dp.reads I d x v hd rx
      obtain ⟨bs, r2⟩ := Dp.reads I d y u he ry
      have := (SeqAt.eqAt_reads d d A s v u as bs r1 r2 hl hl (by rw [Nat.min_self]; omega)).eqP (prog := X.prog) (w := X.w)
      rw [SeqAt.eqv_refl d hl] at this; exact this
    · have step := eqT_run I (A := A) (by omega) (eqS_run I n A.in1 (by show A.units + 1 + n + 65 < cLine; omega)) h rx ry
      obtain ⟨a, b, rfl, rfl⟩ : ∃ a b, x = .ref a ∧ y = .ref b := by
        rcases h with ⟨a, b, _, _, e1, e2, _⟩ | ⟨a, b, _, _, e1, e2, _⟩ | ⟨a, b, _, _, e1, e2, _⟩ <;> exact ⟨a, b, e1, e2⟩
      obtain rfl : v = Value.ref a := rx
      obtain rfl : u = Value.ref b := ry
      by_cases e : a = b
      · subst e
        exact (SeqAt.EqAt.same _).eqP
      · exact SeqAt.eqP_refs e step
def rEqS (K : PySem.W.Frag) : R2 := fun x y H Q => ∃ n, n ≤ 10 ∧ EqT K H (EqS K H n) x y ∧ Q (.bl true) H
theorem op_eqS (hu : X.A.units + 80 < cLine) : OpR X (compareOp .Eq) (rEqS X.K) := by
  intro pins s σ H x y v u Q I rx ry h
  obtain ⟨n, hn, h, q⟩ := h
  exact eqT_run I (A := X.A) (by omega) (eqS_run I n X.A.in1 (by show X.A.units + 1 + n + 65 < cLine; omega)) h rx ry _ _ ⟨.bl true, H, I, rfl, q⟩
end
end Sg

set_option Elab.async false
set_option linter.all false
set_option maxRecDepth 100000
set_option maxHeartbeats 4000000
namespace Sg
open PySem PySem.Spec PyProof.Rows L2
/-! ### != and == of two states that are alike -/
section
variable {prog : Program} {w : World} {κ : Type} [DecidableEq κ] {knd : KeyKind prog w κ} {A : Around} {s : Shared}
theorem ne_dicts {a b : Addr} {ka kb : List (κ × Value)} {E Q : Value → Shared → Prop} (na : (a == sysModules) = false) (nb : (b == sysModules) = false) (da : s.heap.DictOf knd a ka) (db : s.heap.DictOf knd b kb) (hu : A.units < cLine) (hl : ka.length = kb.length)
    (hits : PySem.W.KeqHitsP prog w A.in1 s kb ka true) (h : Q (.bool false) s) : wpAny (model prog w) A (compareOp .NotEq (.ref a) (.ref b)) Q E s := by
  refine wpAny_richCompare_same_room (op := .NotEq) da.typeIs db.typeIs PySem.F.slot_dict_ne (wpAny_call_entry PySem.F.slot_dict_ne da.typeIs PySem.F.entry_dict_ne ?_ (PySem.F.args_dict_ne_2 _ _)) hu
  show wpAny _ _ (Builtin.Dict.dictSlotArgs "__ne__" ⟨[.ref a, .ref b], []⟩ >>= _) _ _ s
  unfold Builtin.Dict.dictSlotArgs
  refine wpAny_bind (wpAny_bind (wpAny_notOrdered_dict da.typeIs ?_))
  show wpAny _ _ (pure (Value.ref a, Value.ref b)) _ _ s
  refine wpAny_pure (wpAny_bind (wpAny_isInstance (T := "dict") db.typeIs PySem.F.sub_dict_dict ?_))
  simp only [Bool.not_true, Bool.false_eq_true, if_false]
  refine wpAny_bind (wpAny_pure (wpAny_bind (wpAny_pure (wpAny_bind (PySem.W.samePairsP (r := true) na nb da db (fun _ => hits) ?_)))))
  refine wpAny_pure ⟨_, rfl, (fun x => nomatch x), ?_⟩
  rw [show ((ka.length == kb.length && true) == false) = false from by rw [hl]; simp]
  exact h
end
section
variable {X : Cx}
/-- two dicts alike: what != says -/
def rNeS (K : PySem.W.Frag) : R2 := fun x y H Q => ∃ (n : Nat) (a b : Addr) (ks ls : List (Key × V)), n ≤ 10 ∧ x = .ref a ∧ y = .ref b ∧ H a = some (.dK ks) ∧ H b = some (.dK ls) ∧ ks.length = ls.length ∧ (∀ p ∈ ks, ∃ u, valV ls p.1 = some u ∧ EqS K H n p.2 u) ∧ Q (.bl false) H
theorem op_neS (hu : X.A.units + 80 < cLine) : OpR X (compareOp .NotEq) (rNeS X.K) := by
  intro pins s σ H x y v u Q I rx ry h
  obtain ⟨n, a, b, ks, ls, hn, rfl, rfl, ha, hb, hl, hp, q⟩ := h
  obtain rfl : v = Value.ref a := rx
  obtain rfl : u = Value.ref b := ry
  obtain ⟨_, ya, va, ra, da⟩ := (show ObjOk X.prog X.w H s.heap a (.dK ks) from I.hok a _ ha)
  obtain ⟨_, yb, vb, rb, db⟩ := (show ObjOk X.prog X.w H s.heap b (.dK ls) from I.hok b _ hb)
  exact ne_dicts (knd := mixKind X.prog X.w) ya yb da db (by omega) (by rw [← ra.length, ← rb.length]; exact hl) (hits_run (eqS_run I n X.A.in1 (by show X.A.units + 1 + n + 65 < cLine; omega)) rb ra hp) ⟨.bl false, H, I, rfl, q⟩
end
/-! ### two states that hold the same -/
section
variable {K : PySem.W.Frag} {H : Hp}
theorem hold_dp {v : V} {hd : Option (Int × Str)} (h : HoldV K H v hd) : Dp K H v (holdD hd) := by
  cases hd with
  | none => obtain rfl : v = .non := h; exact .non
  | some p => obtain ⟨q, rfl, hq, _⟩ := h; exact .tup hq (.cons (.int _) (.cons (.str _) .nil))
theorem rows_dp : ∀ {ps : List Addr} {rs : List (Int × Int)}, Paired (fun (p : Addr) (x : Int × Int) => H p = some (.tup [.int x.1, .int x.2])) ps rs → DpAll K H (ps.map V.ref) (rs.map rowD)
  | _, _, .nil => .nil
  | _, _, .cons h t => .cons (.tup (SqT.of h) (.cons (.int _) (.cons (.int _) .nil))) (rows_dp t)
theorem fence_dp {v : V} {rg : List (Int × Int)} {hd : Option (Int × Str)} (h : FenceAt K H v rg hd) : Dp K H v (fenceD rg hd) := by
  obtain ⟨a, r, hv, rfl, h1, ⟨ps, h2, h3⟩, h4⟩ := h
  exact .tup h1 (.cons (.tup h2 (rows_dp h3)) (.cons (hold_dp h4) .nil))
theorem rows_lay : ∀ rs : List (Int × Int), PyData.canLayAll0 (rs.map rowD) = true ∧ PyData.depthAll (rs.map rowD) ≤ 1
  | [] => ⟨by simp [PyData.canLayAll0], by simp [PyData.depthAll]⟩
  | x :: rs => by
    obtain ⟨i1, i2⟩ := rows_lay rs
    refine ⟨by simp [rowD, PyData.canLayAll0, PyData.canLay0, i1], ?_⟩
    simp only [List.map_cons, rowD, PyData.depthAll, PyData.depth]; omega
theorem fence_lay {rg : List (Int × Int)} {hd : Option (Int × Str)} (ok : hdOk hd) : (fenceD rg hd).canLay0 = true ∧ (fenceD rg hd).depth ≤ 64 := by
  obtain ⟨i1, i2⟩ := rows_lay rg
  cases hd with
  | none =>
    refine ⟨by simp [fenceD, holdD, PyData.canLay0, PyData.canLayAll0, i1], ?_⟩
    simp only [fenceD, holdD, PyData.depth, PyData.depthAll]; omega
  | some p =>
    obtain ⟨h, w⟩ := p
    refine ⟨by simp [fenceD, holdD, PyData.canLay0, PyData.canLayAll0, i1, ok h w rfl], ?_⟩
    simp only [fenceD, holdD, PyData.depth, PyData.depthAll]; omega
theorem fence_ok {v : V} {rg : List (Int × Int)} {hd : Option (Int × Str)} (h : FenceAt K H v rg hd) : hdOk hd := by
  obtain ⟨a, r, hv, rfl, h1, h2, h4⟩ := h
  intro x w e
  subst e
  obtain ⟨q, _, _, ok⟩ := h4
  exact ok
theorem eqS_data {n : Nat} {x y : V} {d : PyData} (h1 : Dp K H x d) (h2 : Dp K H y d) (l : d.canLay0 = true) (dp : d.depth ≤ 64) : EqS K H (n + 1) x y := .inl ⟨d, h1, h2, l, dp⟩
/-- two tables alike, the values by E -/
theorem tab_hits {α β : Type} [DecidableEq α] {R : V → β → Prop} {emb : α → Key} {F : V → V → Prop} (he : ∀ a b, emb a = emb b → a = b) (hf : ∀ x y v, R x v → R y v → F x y) : ∀ {ks ls : List (Key × V)} {l : List (α × β)}, (l.map (·.1)).Nodup → Paired (fun (p : Key × V) (q : α × β) => p.1 = emb q.1 ∧ R p.2 q.2) ks l → Paired (fun (p : Key × V) (q : α × β) => p.1 = emb q.1 ∧ R p.2 q.2) ls l →
    ks.length = ls.length ∧ ∀ p ∈ ks, ∃ u, valV ls p.1 = some u ∧ F p.2 u := by
  intro ks ls l nd h1 h2
  refine ⟨(Paired.length h1).trans (Paired.length h2).symm, fun p hp => ?_⟩
  obtain ⟨i, hi⟩ := List.mem_iff_getElem?.mp hp
  obtain ⟨q, hq, e1, r1⟩ := paired_at h1 hi
  have il := (List.getElem?_eq_some_iff.mp hq).1
  have l2 := Paired.length h2
  obtain ⟨u, hu⟩ : ∃ u, ls[i]? = some u := ⟨ls[i]'(by omega), List.getElem?_eq_getElem (by omega)⟩
  obtain ⟨q', hq', e2, r2⟩ := paired_at h2 hu
  rw [hq] at hq'; cases hq'
  refine ⟨u.2, ?_, hf _ _ _ r1 r2⟩
  have : ls[i]? = some (p.1, u.2) := by rw [hu, e1, ← e2]
  exact valV_get (pr_nodup he (R := R) h2 nd) this
theorem tab_pairs {α β : Type} {R : V → β → Prop} {emb : α → List Key} {F : V → V → Prop} (hf : ∀ x y v, R x v → R y v → F x y) : ∀ {ks ls : List (List Key × V)} {l : List (α × β)}, Paired (fun (p : List Key × V) (q : α × β) => p.1 = emb q.1 ∧ R p.2 q.2) ks l → Paired (fun (p : List Key × V) (q : α × β) => p.1 = emb q.1 ∧ R p.2 q.2) ls l → Paired (fun p q => p.1 = q.1 ∧ F p.2 q.2) ks ls
  | _, _, _, .nil, .nil => .nil
  | _, _, _, .cons h t, .cons h' t' => .cons ⟨h.1.trans h'.1.symm, hf _ _ _ h.2 h'.2⟩ (tab_pairs hf t t')
theorem cells_eq {n : Nat} {a b : Addr} {cs : Cells} (h1 : CellAt K H a cs) (h2 : CellAt K H b cs) : EqS K H (n + 2) (.ref a) (.ref b) := by
  obtain ⟨ks, ha, pa, nd⟩ := h1
  obtain ⟨ls, hb, pb, _⟩ := h2
  obtain ⟨e, hp⟩ := tab_hits (R := fun x (v : Int) => x = .int v) (F := EqS K H (n + 1)) eI_inj (fun x y v r1 r2 => by subst r1 r2; exact eqS_data (.int _) (.int _) (by simp [PyData.canLay0]) (by simp [PyData.depth])) nd pa pb
  exact .inr (.inr (.inl ⟨a, b, ks, ls, rfl, rfl, ha, hb, e, hp⟩))
theorem space_eq {n : Nat} {x y : V} {s : Spc} (h1 : SpcAt K H x s) (h2 : SpcAt K H y s) : EqS K H (n + 3) x y := by
  obtain ⟨a, c, f, rfl, a1, a2, a3⟩ := h1
  obtain ⟨b, d, g, rfl, b1, b2, b3⟩ := h2
  obtain ⟨l1, l2⟩ := fence_lay (rg := s.rg) (fence_ok a3)
  exact .inr (.inl ⟨a, b, _, _, rfl, rfl, a1, b1, .cons (eqS_data (.int _) (.int _) (by simp [PyData.canLay0]) (by simp [PyData.depth])) (.cons (cells_eq a2 b2) (.cons (eqS_data (fence_dp a3) (fence_dp b3) l1 l2) .nil))⟩)
/-- the marks' data are plain -/
def MrkOk (m : Mrk) : Prop := (markD m).canLay0 = true ∧ (markD m).depth ≤ 64
theorem state_eq {a b : Addr} {st : Sta} (h1 : StAt K H a st) (h2 : StAt K H b st) (mk : ∀ p ∈ st.mr, MrkOk p.2) : ∃ ks ls, H a = some (.dK ks) ∧ H b = some (.dK ls) ∧ ks.length = ls.length ∧ ∀ p ∈ ks, ∃ u, valV ls p.1 = some u ∧ EqS K H 5 p.2 u := by
  obtain ⟨b1, b2, b3, ha, t1, t2, t3⟩ := h1
  obtain ⟨c1, c2, c3, hb, u1, u2, u3⟩ := h2
  refine ⟨_, _, ha, hb, rfl, fun p hp => ?_⟩
  have s1 : EqS K H 5 (.ref b1) (.ref c1) := by
    obtain ⟨ks, g1, g2, nd⟩ := t1
    obtain ⟨ls, k1, k2, _⟩ := u1
    obtain ⟨e, hp⟩ := tab_hits (R := SpcAt K H) (F := EqS K H 4) eI_inj (fun x y v r1 r2 => space_eq r1 r2) nd g2 k2
    exact .inr (.inr (.inl ⟨b1, c1, ks, ls, rfl, rfl, g1, k1, e, hp⟩))
  have s2 : EqS K H 5 (.ref b2) (.ref c2) := by
    obtain ⟨ks, g1, g2, nd⟩ := t2
    obtain ⟨ls, k1, k2, _⟩ := u2
    refine .inr (.inr (.inr ⟨b2, c2, ks, ls, rfl, rfl, g1, k1, tab_pairs (R := SnpAt K H) (fun x y v r1 r2 => ?_) g2 k2⟩))
    obtain ⟨d, rfl, d1⟩ := r1
    obtain ⟨e, rfl, e1⟩ := r2
    exact cells_eq d1 e1
  have s3 : EqS K H 5 (.ref b3) (.ref c3) := by
    obtain ⟨ks, g1, g2, nd⟩ := t3
    obtain ⟨ls, k1, k2, _⟩ := u3
    refine .inr (.inr (.inl ⟨b3, c3, ks, ls, rfl, rfl, g1, k1, ?_⟩))
    refine ⟨(Paired.length g2).trans (Paired.length k2).symm, fun p hp => ?_⟩
    obtain ⟨i, hi⟩ := List.mem_iff_getElem?.mp hp
    obtain ⟨q, hq, e1, r1⟩ := paired_at g2 hi
    have il := (List.getElem?_eq_some_iff.mp hq).1
    have l2 := Paired.length k2
    obtain ⟨u, hu⟩ : ∃ u, ls[i]? = some u := ⟨ls[i]'(by omega), List.getElem?_eq_getElem (by omega)⟩
    obtain ⟨q', hq', e2, r2⟩ := paired_at k2 hu
    rw [hq] at hq'; cases hq'
    have ok := mk q (List.mem_of_getElem? hq)
    refine ⟨u.2, valV_get (pr_nodup eI_inj (R := MrkAt K H) k2 nd) (by rw [hu, e1, ← e2]), eqS_data r1 r2 ok.1 ok.2⟩
  have s0 : EqS K H 5 (.int st.o) (.int st.o) := eqS_data (.int _) (.int _) (by simp [PyData.canLay0]) (by simp [PyData.depth])
  unfold stK at hp
  simp only [List.mem_cons, List.not_mem_nil, or_false] at hp
  rcases hp with rfl | rfl | rfl | rfl
  · exact ⟨_, rfl, s0⟩
  · exact ⟨_, rfl, s1⟩
  · exact ⟨_, rfl, s2⟩
  · exact ⟨_, rfl, s3⟩
end
end Sg

set_option Elab.async false
set_option linter.all false
set_option maxRecDepth 100000
set_option maxHeartbeats 4000000
namespace Sg
open PySem PySem.Spec PyProof.Rows L2
def spCell (K : PySem.W.Frag) : Sp := fun vs H Q _ => ∃ (a : Addr) (ns : List Int) (k : Nat), vs = [.ref a, .int (k : Int)] ∧ SqL K H a (ns.map V.int) ∧ Q (.int (ns.getD k 0)) H
def spDig (K : PySem.W.Frag) : Sp := fun vs H Q _ => ∃ (c : Int) (b : Addr) (bs : List Int), vs = [.int c, .ref b] ∧ SqL K H b (bs.map V.int) ∧ bs.length ≤ 30 ∧ (∀ x ∈ bs, 0 < x ∧ x < 1073741824) ∧
  ∀ (l : Addr) (ds : List Int) H', H l = none → Same H H' → H' l = some (.lst (ds.map V.int)) → ds.length = bs.length → (∀ (i : Nat) (d b : Int), ds[i]? = some d → bs[i]? = some b → 0 ≤ d ∧ d < b) → Q (.ref l) H'
def spMany (K : PySem.W.Frag) : Sp := fun vs H Q _ => ∃ (a : Addr) (ns : List Int) (x y : Int), vs = [.ref a, .int x, .int y] ∧ SqL K H a (ns.map V.int) ∧ ∀ m, m = x ∨ m = y → Q (.int m) H
section
variable {P : Program} {wd : World} {K : PySem.W.Frag} {mg : Str → Option Value} {base : Heap} {f C : Addr} {fd : FuncData}
theorem scCell : FnScope ["script", "k"] ["script", "k"] (defScope sLCell) := ⟨rfl, rfl, rfl, by decide +kernel, rfl, by decide +kernel, by decide +kernel⟩
theorem ok_cell (F : Fun K "_law_cell" "_law_cell" sLCell f fd) (B : BK mg) : FnOk P wd K mg base CX0 1 f fd ["script", "k"] (spCell K) := by
  refine F.ok scCell (fun vs H Q E h => ?_) (fun cdv A outer s H vs Q E hr h => ?_)
  · obtain ⟨a, ns, k, rfl, _⟩ := h
    rfl
  · obtain ⟨a, ns, k, rfl, hS, q⟩ := h
    refine ⟨_, (pss_cons (ps_if (pt_cmpR op_lt (pv 1) (pe_callB call_len_seq (by rfl) B.len PySem.boot_len (pa_cons (pv 0) pa_nil)) (nomark _))
      (pss_one (ps_ret (pe_callTy call_int1 (by rfl) B.int (by decide +kernel) (pa_cons (pe_ix ix_list (pv 0) (pv 1) (fun _ _ => rfl)) pa_nil)))) pss_nil)
      (pss_one (ps_ret pe_int))), ?_⟩
    refine ⟨_, rfl, _, rfl, a, _, rfl, .inl hS, _, _, rfl, rfl, _, rfl, ?_⟩
    rw [List.length_map]
    by_cases hk : k < ns.length
    · rw [decide_eq_true (show (k : Int) < (ns.length : Int) by omega)]
      refine iteT ⟨_, rfl, _, rfl, a, _, _, _, rfl, rfl, hS, atI_nat (get_map (List.getElem?_eq_getElem hk)), .inl ⟨_, rfl, ?_⟩⟩
      rw [List.getD_eq_getElem?_getD, List.getElem?_eq_getElem hk] at q
      exact q
    · rw [decide_eq_false (show ¬ (k : Int) < (ns.length : Int) by omega)]
      refine iteF ?_
      rw [List.getD_eq_getElem?_getD, List.getElem?_eq_none (by omega)] at q
      exact q
theorem scMany : FnScope ["script", "few", "many"] ["script", "few", "many"] (defScope sLMany) := ⟨rfl, rfl, rfl, by decide +kernel, rfl, by decide +kernel, by decide +kernel⟩
theorem ok_many (F : Fun K "_law_many" "_law_many" sLMany f fd) (B : BK mg) : FnOk P wd K mg base CX0 1 f fd ["script", "few", "many"] (spMany K) := by
  refine F.ok scMany (fun vs H Q E h => ?_) (fun cdv A outer s H vs Q E hr h => ?_)
  · obtain ⟨a, ns, x, y, rfl, _⟩ := h
    rfl
  · obtain ⟨a, ns, x, y, rfl, hS, q⟩ := h
    have q1 := q x (.inl rfl)
    have q2 := q y (.inr rfl)
    refine ⟨_, (pss_cons (ps_if (PW.pt (pw_and (pt_cmpR op_gt (pe_callB call_len_seq (by rfl) B.len PySem.boot_len (pa_cons (pv 0) pa_nil)) pe_int (nomark _)) (pw_and1 (pt_cmpR op_eq (pe_op op_mod (pe_op op_fdiv (pe_callTy call_int1 (by rfl) B.int (by decide +kernel) (pa_cons (pe_ix ix_list (pv 0) pe_int (fun _ _ => rfl)) pa_nil)) pe_int) pe_int) pe_int (nomark _)))))
      (pss_one (ps_ret (pv 2))) pss_nil)
      (pss_one (ps_ret (pv 1)))), ?_⟩
    refine ⟨_, rfl, a, _, rfl, .inl hS, _, _, rfl, rfl, _, rfl, ?_⟩
    rw [List.length_map]
    by_cases hk : 0 < ns.length
    · rw [decide_eq_true (show (0 : Int) < (ns.length : Int) by omega)]
      refine iteT ⟨_, rfl, a, _, _, _, rfl, rfl, hS, atI_nat (j := 0) (get_map (List.getElem?_eq_getElem hk)), .inl ⟨_, rfl, _, _, rfl, rfl, ⟨by decide, by decide⟩, _, _, rfl, rfl, (by show (0 : Int) < 5; decide), rfl, _, rfl, ?_⟩⟩
      refine ite2 (fun _ => ⟨_, rfl, q2⟩) (fun _ => ⟨_, rfl, q1⟩)
    · rw [decide_eq_false (show ¬ (0 : Int) < (ns.length : Int) by omega)]
      exact iteF ⟨_, rfl, q1⟩
theorem scDig : FnScope ["cell", "bases", "digits", "rest", "base", "mixed"] ["cell", "bases"] (defScope sLDigits) := ⟨rfl, rfl, rfl, by decide +kernel, rfl, by decide +kernel, by decide +kernel⟩
theorem dig_snoc {ds bs : List Int} {i : Nat} {d b : Int} (hl : ds.length = i) (hb : bs[i]? = some b) (h : ∀ (i : Nat) (d b : Int), ds[i]? = some d → bs[i]? = some b → 0 ≤ d ∧ d < b) (h0 : 0 ≤ d) (h1 : d < b) :
    ∀ (i : Nat) (d' b : Int), (ds ++ [d])[i]? = some d' → bs[i]? = some b → 0 ≤ d' ∧ d' < b := by
  intro j d' b' e1 e2
  by_cases hj : j < ds.length
  · rw [List.getElem?_append_left hj] at e1
    exact h j d' b' e1 e2
  · have hj' : j = ds.length := by
      have := (List.getElem?_eq_some_iff.mp e1).1
      rw [List.length_append] at this
      simp only [List.length_cons, List.length_nil] at this
      omega
    subst hj'
    rw [List.getElem?_append_right (Nat.le_refl _), Nat.sub_self] at e1
    have e3 : d = d' := by simpa using e1
    rw [hl, hb] at e2
    cases e2
    subst e3
    exact ⟨h0, h1⟩
theorem ok_dig (F : Fun K "_law_digits" "_law_digits" sLDigits f fd) (B : BK mg) : FnOk P wd K mg base CX0 1 f fd ["cell", "bases"] (spDig K) := by
  refine F.ok scDig (fun vs H Q E h => ?_) (fun cdv A outer s H vs Q E hr h => ?_)
  · obtain ⟨c, b, bs, rfl, _⟩ := h
    rfl
  · obtain ⟨c, b, bs, rfl, hS, hbl, hbs, q⟩ := h
    refine ⟨_, (pss_cons (ps_set (i := 2) scDig.nd rfl (Or.inl rfl) (pe_lst pa_nil))
      (pss_cons (ps_set (i := 3) scDig.nd rfl (Or.inl rfl) (pe_callTy call_int1 (by rfl) B.int (by decide +kernel) (pa_cons (pv 0) pa_nil)))
      (pss_cons (ps_for PassesOwn.never rfl (pi_list (pv 1)) (pg_name (i := 4) scDig.nd rfl (Or.inl rfl))
      (pss_one (ps_if (pt_cmpR op_ge (pv 0) (pe_op op_pow pe_int pe_int) (nomark _))
      (pss_cons (ps_expr (pe_bm PySem.F.plainAttrs_list PySem.F.slot_list_append PySem.F.type_list_append mt_append (pv 2) (pa_cons (pe_op op_mod (pe_callTy call_int1 (by rfl) B.int (by decide +kernel) (pa_cons (pv 3) pa_nil)) (pv 4)) pa_nil)))
      (pss_one (ps_set (i := 3) scDig.nd rfl (Or.inl rfl) (pe_op op_fdiv (pv 3) (pv 4))))) (pss_cons (ps_set (i := 3) scDig.nd rfl (Or.inl rfl) (pe_op op_mod (pe_op op_add (pe_op op_add (pe_op op_mul (pe_callTy call_int1 (by rfl) B.int (by decide +kernel) (pa_cons (pv 3) pa_nil)) pe_int) (pe_op op_mul pe_int (pe_callB call_len_seq (by rfl) B.len PySem.boot_len (pa_cons (pv 2) pa_nil)))) pe_int) pe_int))
      (pss_cons (ps_set (i := 5) scDig.nd rfl (Or.inl rfl) (pe_op op_mod (pe_op op_mul (pe_callTy call_int1 (by rfl) B.int (by decide +kernel) (pa_cons (pv 3) pa_nil)) (pe_callTy call_int1 (by rfl) B.int (by decide +kernel) (pa_cons (pv 3) pa_nil))) pe_int))
      (pss_one (ps_expr (pe_bm PySem.F.plainAttrs_list PySem.F.slot_list_append PySem.F.type_list_append mt_append (pv 2) (pa_cons (pe_op op_mod (pe_op op_fdiv (pe_callTy call_int1 (by rfl) B.int (by decide +kernel) (pa_cons (pv 5) pa_nil)) pe_int) (pv 4)) pa_nil)))))))))
      (pss_one (ps_ret (pv 2)))))), ?_⟩
    refine ⟨by show 0 ≤ sizeLine; decide, fun l hl => ?_⟩
    have s1 : Same H (upd H l (.lst [])) := same_new hl
    refine ⟨_, rfl, .inl ⟨_, rfl, ?_⟩⟩
    refine ⟨_, rfl, b, rfl, ⟨_, s1.seq hS⟩, for_list (xs := bs.map V.int) (fun i σ H' => ∃ (rest : Int) (x4 x5 : Option V) (ds : List Int), σ = [some (.int c), some (.ref b), some (.ref l), some (.int rest), x4, x5] ∧ Same H H' ∧ H' l = some (.lst (ds.map V.int)) ∧ ds.length = i ∧ (∀ (i : Nat) (d b : Int), ds[i]? = some d → bs[i]? = some b → 0 ≤ d ∧ d < b)) ?_ ?_ ?_ ?_⟩
    · exact ⟨_, _, _, [], rfl, s1, upd_same, rfl, fun i d b h => by simp at h⟩
    · rintro i σ H' hi ⟨rest, x4, x5, ds, rfl, sm, _⟩
      exact sm.seq hS
    · rintro i x σ H' hx ⟨rest, x4, x5, ds, rfl, sm, hds, hlen, hd⟩
      obtain ⟨bi, hbi, rfl⟩ := map_get hx
      obtain ⟨hb0, hb1⟩ := hbs bi (List.mem_of_getElem? hbi)
      have hil : i < bs.length := (List.getElem?_eq_some_iff.mp hbi).1
      have sl : (ds.map V.int).length < sizeLine := by rw [List.length_map]; exact small1000 (by omega)
      have app : ∀ d : Int, ds.map V.int ++ [V.int d] = (ds ++ [d]).map V.int := fun d => by rw [List.map_append]; rfl
      have sm2 : ∀ o, Same H (upd H' l o) := fun o x u e => by rw [upd_ne (ne_of_none e hl)]; exact sm _ _ e
      refine ⟨_, rfl, _, _, rfl, rfl, ⟨by decide, by decide, by decide⟩, _, _, rfl, rfl, _, rfl, ?_⟩
      refine ite2 (fun _ => ?_) (fun _ => ?_)
      · refine ⟨_, rfl, .inl ⟨rfl, _, SqL.of hds⟩, _, rfl, .inl ⟨_, rfl, _, rfl, _, _, rfl, rfl, hb0, ?_⟩⟩
        refine nil_ ⟨_, _, _, rfl, rfl, hds, sl, ?_⟩
        refine ⟨_, rfl, _, rfl, _, _, rfl, rfl, ⟨hb0, hb1⟩, ?_⟩
        rw [app]
        exact ⟨_, _, _, _, rfl, sm2 _, upd_same, by rw [List.length_append, hlen]; rfl, dig_snoc hlen hbi hd (Int.emod_nonneg _ (by omega)) (Int.emod_lt_of_pos _ hb0)⟩
      · refine ⟨_, rfl, .inl ⟨_, rfl, _, _, rfl, rfl, .inr ⟨by decide, by decide⟩, _, rfl, _, _, rfl, .inl (SqL.of hds), _, _, rfl, rfl, .inl ⟨by decide, by decide⟩, _, _, rfl, rfl, _, _, rfl, rfl, _, _, rfl, rfl, (by show (0 : Int) < 2147483647; decide), ?_⟩⟩
        generalize hg : (rest * 48271 + 1009 * ((ds.map V.int).length : Int) + 12345) % 2147483647 = r2
        have hr0 : 0 ≤ r2 := by rw [← hg]; exact Int.emod_nonneg _ (by decide)
        have hr1 : r2 < 2147483647 := by rw [← hg]; exact Int.emod_lt_of_pos _ (by decide)
        refine ⟨_, rfl, .inl ⟨_, rfl, _, rfl, .inl ⟨_, rfl, _, _, rfl, rfl, .inl ⟨by omega, by omega⟩, _, _, rfl, rfl, (by show (0 : Int) < 2147483629; decide), ?_⟩⟩⟩
        refine ⟨_, rfl, .inl ⟨rfl, _, SqL.of hds⟩, _, rfl, .inl ⟨_, rfl, _, _, rfl, rfl, ⟨by decide, by decide⟩, _, rfl, _, _, rfl, rfl, hb0, ?_⟩⟩
        refine nil_ ⟨_, _, _, rfl, rfl, hds, sl, ?_⟩
        rw [app]
        exact ⟨_, _, _, _, rfl, sm2 _, upd_same, by rw [List.length_append, hlen]; rfl, dig_snoc hlen hbi hd (Int.emod_nonneg _ (by omega)) (Int.emod_lt_of_pos _ hb0)⟩
    · rintro σ H' ⟨rest, x4, x5, ds, rfl, sm, hds, hlen, hd⟩
      rw [List.length_map] at hlen
      exact ⟨_, rfl, q l ds H' hl sm hds hlen hd⟩
end
end Sg

set_option Elab.async false
set_option linter.all false
set_option maxRecDepth 100000
set_option maxHeartbeats 4000000
namespace Sg
open PySem PySem.Spec PyProof.Rows L2
/-! ### the law's steps -/
def spLRecord (K : PySem.W.Frag) : Sp := fun vs H Q _ => ∃ (stp : Addr) (r : Rc), vs = [.int r.o, .ref stp] ∧ StepAt K H stp r ∧ ∀ t H', Same H H' → RecAt K H' t r → Q (.ref t) H'
def sessN (st : Sta) (h : Int) (b : Bd) : Int := (match lookI st.mr h with | none => 1 | some m => m.s) + (if kindS b = "mark" then 1 else 0)
def cntN (st : Sta) (h : Int) (b : Bd) : Int := if kindS b = "mark" then 0 else (match lookI st.mr h with | none => 0 | some m => m.c) + 1
def spLNamed (K : PySem.W.Frag) : Sp := fun vs H Q _ => ∃ (w fl : Addr) (st : Sta) (h : Int) (b : Bd) (ys : List V), vs = [.ref w, .str (kindS b), .int h, .ref fl] ∧ StAt K H w st ∧ SqT K H fl ys ∧ DpAll K H ys (fldD b) ∧
  ∀ stp H', Same H H' → (∀ o, StepAt K H' stp ⟨o, h, sessN st h b, cntN st h b, b⟩) → Q (.ref stp) H'
section
variable {P : Program} {wd : World} {K : PySem.W.Frag} {mg : Str → Option Value} {base : Heap} {f : Addr} {fd : FuncData}
theorem scLRecord : FnScope ["order", "step"] ["order", "step"] (defScope sLRecord) := ⟨rfl, rfl, rfl, by decide +kernel, rfl, by decide +kernel, by decide +kernel⟩
theorem ok_lrecord (F : Fun K "_law_record" "_law_record" sLRecord f fd) (B : BK mg) : FnOk P wd K mg base CX0 1 f fd ["order","step"] (spLRecord K) := by
  refine F.ok scLRecord (fun vs H Q E h => ?_) (fun cdv A outer s H vs Q E hr h => ?_)
  · obtain ⟨stp, r, rfl, _⟩ := h
    rfl
  · obtain ⟨stp, r, rfl, ⟨fl, ys, h1, h2, h3⟩, q⟩ := h
    refine ⟨_, (pss_one (ps_ret (pe_op op_catT (pe_tup (pa_cons (pv 0) (pa_cons (pe_ix ix_tup (pv 1) pe_int (fun _ _ => rfl)) (pa_cons (pe_ix ix_tup (pv 1) pe_int (fun _ _ => rfl)) (pa_cons (pe_ix ix_tup (pv 1) pe_int (fun _ _ => rfl)) (pa_cons (pe_ix ix_tup (pv 1) pe_int (fun _ _ => rfl)) pa_nil)))))) (pe_callTy call_tupleT (by rfl) B.tuple (by decide +kernel) (pa_cons (pe_ix ix_tup (pv 1) pe_int (fun _ _ => rfl)) pa_nil))))), ?_⟩
    refine ⟨_, rfl, _, rfl, stp, _, _, _, rfl, rfl, h1, atI_nat (j := 0) rfl, _, rfl, stp, _, _, _, rfl, rfl, h1, atI_nat (j := 1) rfl, _, rfl, stp, _, _, _, rfl, rfl, h1, atI_nat (j := 2) rfl, _, rfl, stp, _, _, _, rfl, rfl, h1, atI_nat (j := 3) rfl, by show 5 ≤ sizeLine; decide, fun t ht => ?_⟩
    have s1 := same_new (o := .tup [V.int r.o, V.str (kindS r.b), V.int r.h, V.int r.s, V.int r.c]) ht
    have ht1 : (upd H t (.tup [V.int r.o, V.str (kindS r.b), V.int r.h, V.int r.s, V.int r.c])) t = some (.tup [V.int r.o, V.str (kindS r.b), V.int r.h, V.int r.s, V.int r.c]) := upd_same
    generalize upd H t (.tup [V.int r.o, V.str (kindS r.b), V.int r.h, V.int r.s, V.int r.c]) = H1 at s1 ht1
    have fl3 := fld_len r.b
    have dl := dpAll_len h3
    refine ⟨_, rfl, stp, _, _, _, rfl, rfl, SqT_same s1 h1, atI_nat (j := 4) rfl, fl, ys, rfl, SqT_same s1 h2, ?_⟩
    have ne : ys ≠ [] := fun e => by rw [e] at dl; cases hb : r.b <;> rw [hb] at dl <;> simp [fldD] at dl
    refine ⟨t, fl, _, ys, rfl, rfl, SqT.of ht1, SqT_same s1 h2, (by simp), Nat.le_of_lt (small1000 (by simp only [List.length_cons, List.length_nil]; omega)), fun e => absurd e ne, fun _ p hp => ?_⟩
    have s2 := same_new (o := .tup ([V.int r.o, V.str (kindS r.b), V.int r.h, V.int r.s, V.int r.c] ++ ys)) hp
    exact q p _ (s1.trans s2) ⟨ys, SqT.of upd_same, dpAll_same (s1.trans s2) _ _ h3⟩
theorem scLNamed : FnScope ["world", "kind", "host", "fields", "mark"] ["world", "kind", "host", "fields"] (defScope sLNamed) := ⟨rfl, rfl, rfl, by decide +kernel, rfl, by decide +kernel, by decide +kernel⟩
theorem ok_lnamed (F : Fun K "_law_named" "_law_named" sLNamed f fd) : FnOk P wd K mg base CX0 1 f fd ["world","kind","host","fields"] (spLNamed K) := by
  refine F.ok scLNamed (fun vs H Q E h => ?_) (fun cdv A outer s H vs Q E hr h => ?_)
  · obtain ⟨w, fl, st, hh, b, ys, rfl, _⟩ := h
    rfl
  · obtain ⟨w, fl, st, hh, b, ys, rfl, ⟨b1, b2, b3, ha, t1, t2, t3⟩, h2, h3, q⟩ := h
    refine ⟨_, (pss_cons (ps_set (i := 4) scLNamed.nd rfl (Or.inl rfl) (pe_dget2 (hu_of hr) (pe_dget (hu_of hr) (pv 0) pe_str (fun _ _ => rfl)) (pv 2) (pe_tup (pa_cons pe_int (pa_cons pe_int (pa_cons pe_non (pa_cons pe_non pa_nil))))) ⟨rfl, rfl, rfl, rfl⟩))
      (pss_cons (ps_if (pt_cmpR op_eq (pv 1) pe_str (nomark _))
      (pss_one (ps_ret (pe_tup (pa_cons (pv 1) (pa_cons (pv 2) (pa_cons (pe_op op_add (pe_ix ix_tup (pv 4) pe_int (fun _ _ => rfl)) pe_int) (pa_cons pe_int (pa_cons (pv 3) pa_nil)))))))) pss_nil)
      (pss_one (ps_ret (pe_tup (pa_cons (pv 1) (pa_cons (pv 2) (pa_cons (pe_ix ix_tup (pv 4) pe_int (fun _ _ => rfl)) (pa_cons (pe_op op_add (pe_ix ix_tup (pv 4) pe_int (fun _ _ => rfl)) pe_int) (pa_cons (pv 3) pa_nil)))))))))), ?_⟩
    obtain ⟨kvs3, hb3, pr3, nd3⟩ := id t3
    refine ⟨_, rfl, w, .ref b3, rfl, .inl ⟨_, .inr "marks", .inl ha, rfl, rfl⟩, b3, rfl, .inl ⟨kvs3, .inl hb3⟩, _, rfl, by show 4 ≤ sizeLine; decide, fun d hd => ?_⟩
    have s1 := same_new (o := .tup [V.int 1, V.int 0, V.non, V.non]) hd
    have hd1 : (upd H d (.tup [V.int 1, V.int 0, V.non, V.non])) d = some (.tup [V.int 1, V.int 0, V.non, V.non]) := upd_same
    generalize upd H d (.tup [V.int 1, V.int 0, V.non, V.non]) = H1 at s1 hd1
    have found : ∃ o p x3 x4, DGet H1 b3 (.int hh) o ∧ o.getD (.ref d) = .ref p ∧ SqT K H1 p [.int (match lookI st.mr hh with | none => 1 | some m => m.s), .int (match lookI st.mr hh with | none => 0 | some m => m.c), x3, x4] := by
      rcases pr_look (R := MrkAt K H) eI_inj (k := hh) pr3 with ⟨e0, hz⟩ | ⟨m, z, e0, hz, az⟩
      · rw [e0]
        exact ⟨none, d, _, _, .inl ⟨_, .inl hh, .inl (s1 _ _ hb3), rfl, hz.symm⟩, rfl, SqT.of hd1⟩
      · rw [e0]
        unfold MrkAt markD at az
        cases az with
        | tup hp hd =>
          obtain ⟨x1, r1, rfl, e1, c1⟩ := dpAll_cons hd
          obtain rfl := dp_int e1
          obtain ⟨x2, r2, rfl, e2, c2⟩ := dpAll_cons c1
          obtain rfl := dp_int e2
          obtain ⟨x3, r3, rfl, e3, c3⟩ := dpAll_cons c2
          obtain ⟨x4, r4, rfl, e4, c4⟩ := dpAll_cons c3
          obtain rfl := dpAll_nil c4
          exact ⟨some _, _, _, _, .inl ⟨_, .inl hh, .inl (s1 _ _ hb3), rfl, hz.symm⟩, rfl, SqT_same s1 hp⟩
    obtain ⟨og, p, x3, x4, hg, ho, hp⟩ := found
    refine ⟨og, hg, ?_⟩
    rw [ho]
    refine ⟨_, rfl, rfl, _, rfl, ?_⟩
    by_cases c : kindS b = "mark"
    · refine chooseT (decide_eq_true (by rw [c])) ?_
      refine ⟨_, rfl, _, rfl, _, rfl, p, _, _, _, rfl, rfl, hp, atI_nat (j := 0) rfl, _, _, rfl, rfl, _, rfl, by show 5 ≤ sizeLine; decide, fun t ht => ?_⟩
      refine q t _ (s1.trans (same_new ht)) fun o => ⟨fl, ys, ?_, SqT_same (s1.trans (same_new ht)) h2, dpAll_same (s1.trans (same_new ht)) _ _ h3⟩
      simp only [sessN, cntN, if_pos c]
      exact SqT.of upd_same
    · refine chooseF (str_eqF c) ?_
      refine ⟨_, rfl, _, rfl, _, rfl, p, _, _, _, rfl, rfl, hp, atI_nat (j := 0) rfl, _, rfl, p, _, _, _, rfl, rfl, hp, atI_nat (j := 1) rfl, _, _, rfl, rfl, _, rfl, by show 5 ≤ sizeLine; decide, fun t ht => ?_⟩
      refine q t _ (s1.trans (same_new ht)) fun o => ⟨fl, ys, ?_, SqT_same (s1.trans (same_new ht)) h2, dpAll_same (s1.trans (same_new ht)) _ _ h3⟩
      simp only [sessN, cntN, if_neg c, Int.add_zero]
      exact SqT.of upd_same
end
end Sg

set_option Elab.async false
set_option linter.all false
set_option maxRecDepth 100000
set_option maxHeartbeats 4000000
namespace Sg
open PySem PySem.Spec PyProof.Rows L2
/-! ### what a host was told -/
def told4 (st : Sta) (h : Int) : PyData := match lookI st.mr h with
  | none => .none
  | some m => if m.c = 0 then m.td else .tuple [.int m.s, .int m.c, m.an]
def spLTold (K : PySem.W.Frag) : Sp := fun vs H Q _ => ∃ (w : Addr) (st : Sta) (h : Int), vs = [.ref w, .int h] ∧ StAt K H w st ∧ ∀ v H', Same H H' → Dp K H' v (told4 st h) → Q v H'
theorem dp_non {K : PySem.W.Frag} {H : Hp} {x : V} {d : PyData} (h : Dp K H x d) : decide (x = .non) = true ↔ d = .none := by
  cases h <;> simp
section
variable {P : Program} {wd : World} {K : PySem.W.Frag} {mg : Str → Option Value} {base : Heap} {f : Addr} {fd : FuncData}
theorem scLTold : FnScope ["world", "host", "mark"] ["world", "host"] (defScope sLTold) := ⟨rfl, rfl, rfl, by decide +kernel, rfl, by decide +kernel, by decide +kernel⟩
theorem ok_ltold (F : Fun K "_law_told" "_law_told" sLTold f fd) : FnOk P wd K mg base CX0 1 f fd ["world","host"] (spLTold K) := by
  refine F.ok scLTold (fun vs H Q E h => ?_) (fun cdv A outer s H vs Q E hr h => ?_)
  · obtain ⟨w, st, hh, rfl, _⟩ := h
    rfl
  · obtain ⟨w, st, hh, rfl, ⟨b1, b2, b3, ha, t1, t2, t3⟩, q⟩ := h
    refine ⟨_, (pss_cons (ps_set (i := 2) scLTold.nd rfl (Or.inl rfl) (pe_dget2 (hu_of hr) (pe_dget (hu_of hr) (pv 0) pe_str (fun _ _ => rfl)) (pv 1) pe_non ⟨rfl, rfl, rfl, rfl⟩))
      (pss_cons (ps_if (PW.pt (pw_or (pt_cmpR op_isN (pv 2) pe_non (nomark _)) (pw_or1 (PW.pt (pw_and (pt_cmpR op_eq (pe_ix ix_tup (pv 2) pe_int (fun _ _ => rfl)) pe_int (nomark _)) (pw_and1 (pt_cmpR op_isN (pe_ix ix_tup (pv 2) pe_int (fun _ _ => rfl)) pe_non (nomark _))))))))
      (pss_one (ps_ret pe_non)) pss_nil)
      (pss_cons (ps_if (pt_cmpR op_eq (pe_ix ix_tup (pv 2) pe_int (fun _ _ => rfl)) pe_int (nomark _))
      (pss_one (ps_ret (pe_ix ix_tup (pv 2) pe_int (fun _ _ => rfl)))) pss_nil)
      (pss_one (ps_ret (pe_slice sl_any (pv 2) po_none (po_some pe_int))))))), ?_⟩
    obtain ⟨kvs3, hb3, pr3, nd3⟩ := id t3
    refine ⟨_, rfl, w, .ref b3, rfl, .inl ⟨_, .inr "marks", .inl ha, rfl, rfl⟩, b3, rfl, .inl ⟨kvs3, .inl hb3⟩, _, rfl, ?_⟩
    rcases pr_look (R := MrkAt K H) eI_inj (k := hh) pr3 with ⟨e0, hz⟩ | ⟨m, z, e0, hz, az⟩
    · refine ⟨none, .inl ⟨_, .inl hh, .inl hb3, rfl, hz.symm⟩, ?_⟩
      refine ⟨_, rfl, rfl, _, rfl, ?_⟩
      refine chooseT rfl ?_
      refine q .non H (Same.refl _) ?_
      unfold told4; rw [e0]; exact .non
    · refine ⟨some z, .inl ⟨_, .inl hh, .inl hb3, rfl, hz.symm⟩, ?_⟩
      unfold MrkAt markD at az
      cases az with
      | tup hp hd =>
        obtain ⟨x1, r1, rfl, e1, c1⟩ := dpAll_cons hd
        obtain rfl := dp_int e1
        obtain ⟨x2, r2, rfl, e2, c2⟩ := dpAll_cons c1
        obtain rfl := dp_int e2
        obtain ⟨x3, r3, rfl, e3, c3⟩ := dpAll_cons c2
        obtain ⟨x4, r4, rfl, e4, c4⟩ := dpAll_cons c3
        obtain rfl := dpAll_nil c4
        refine ⟨_, rfl, rfl, _, rfl, ?_⟩
        refine chooseF rfl ?_
        rename_i p
        have et : told4 st hh = if m.c = 0 then m.td else .tuple [.int m.s, .int m.c, m.an] := by unfold told4; rw [e0]
        by_cases c : m.c = 0
        · refine ⟨_, rfl, p, _, _, _, rfl, rfl, hp, atI_nat (j := 1) rfl, rfl, _, rfl, ?_⟩
          refine chooseT (decide_eq_true (by rw [c])) ?_
          refine ⟨_, rfl, p, _, _, _, rfl, rfl, hp, atI_nat (j := 3) rfl, rfl, _, rfl, ?_⟩
          by_cases n : x4 = .non
          · refine chooseT (decide_eq_true n) ?_
            refine q .non H (Same.refl _) ?_
            rw [et, if_pos c]
            rw [n] at e4; exact e4
          · refine chooseF (decide_eq_false n) ?_
            refine ⟨_, rfl, p, _, _, _, rfl, rfl, hp, atI_nat (j := 1) rfl, rfl, _, rfl, ?_⟩
            refine chooseT (decide_eq_true (by rw [c])) ?_
            refine ⟨_, rfl, p, _, _, _, rfl, rfl, hp, atI_nat (j := 3) rfl, ?_⟩
            refine q x4 H (Same.refl _) ?_
            rw [et, if_pos c]; exact e4
        · have cz : ¬ V.int m.c = V.int 0 := fun e => c (by injection e)
          refine ⟨_, rfl, p, _, _, _, rfl, rfl, hp, atI_nat (j := 1) rfl, rfl, _, rfl, ?_⟩
          refine chooseF (decide_eq_false cz) ?_
          refine chooseF rfl ?_
          refine ⟨_, rfl, p, _, _, _, rfl, rfl, hp, atI_nat (j := 1) rfl, rfl, _, rfl, ?_⟩
          refine chooseF (decide_eq_false cz) ?_
          refine ⟨_, rfl, _, rfl, p, _, rfl, hp, fun p2 H2 s2 h2 => ?_⟩
          refine q (.ref p2) H2 s2 ?_
          rw [et, if_neg c]
          have e3' : cutV [V.int m.s, V.int m.c, x3, x4] Option.none (some 3) = [V.int m.s, V.int m.c, x3] := cut_take (xs := [V.int m.s, V.int m.c, x3, x4]) (n := 3) (by show 3 ≤ 4; decide)
          rw [e3'] at h2
          exact .tup h2 (.cons (.int _) (.cons (.int _) (.cons (dp_same s2 _ _ e3) .nil)))
end
end Sg

set_option Elab.async false
set_option linter.all false
set_option maxRecDepth 100000
set_option maxHeartbeats 4000000
namespace Sg
open PySem PySem.Spec PyProof.Rows L2
/-! ### whether a step may be, as the law draws it -/
theorem lc_hosts {K : PySem.W.Frag} {σ : L2.St} {H1 : Hp} {D r : Addr} {rs : List (Int × Int)} {jx : Nat} {Qd : Hp → Prop} (hr : RegsAt K H1 r rs) (hD : H1 D = none) (hl : rs.length ≤ 1000) (hjx : jx < σ.length) (hd : ∀ H', Same H1 H' → H' D = some (.lst (rs.map fun p => V.int p.1)) → Qd H') :
    ∃ W : Nat → Nat → Hp → Prop, (∃ m, W 0 m (upd H1 D (.lst []))) ∧ ∀ i m H, W i m H →
      ((Itt K r).stop i H ∧ Qd H) ∨ ((Itt K r).go i H ∧ ∃ Nx : Hp → Prop, (∀ H', Nx H' → ∃ m', m' < m ∧ W (i + 1) m' H') ∧ ∀ x H', (Itt K r).yld i H x H' → gName jx x (wipe σ [jx]) H' fun σ2 H2 => wipe σ2 [jx] = wipe σ [jx] ∧ tYes σ2 H2 fun b H3 =>
        if b = true then (tOp (rIxT K) (tVar jx) (tC (.int 0))) σ2 H3 fun y H4 => ∃ acc, H4 D = some (.lst acc) ∧ acc.length < sizeLine ∧ Nx (upd H4 D (.lst (acc ++ [y]))) else Nx H3) := by
  obtain ⟨ps, hp, pr⟩ := hr
  have pl := Paired.length pr
  refine lc_tup (K := K) (a := r) (xs := ps.map V.ref) (fun i H' => Same H1 H' ∧ H' D = some (.lst ((rs.take i).map fun p => V.int p.1))) ⟨same_new hD, upd_same⟩ (fun i H' _ p => SqT_same p.1 hp) ?_ ?_
  · rintro i x H' hi ⟨sm, hDi⟩
    obtain ⟨p, hpi, rfl⟩ := map_get hi
    obtain ⟨q, hq, e⟩ := paired_at pr hpi
    have il := (List.getElem?_eq_some_iff.mp hq).1
    refine ⟨?_, ?_⟩
    · show ((σ.set jx none).set jx (some (V.ref p))).set jx none = σ.set jx none
      rw [List.set_set, List.set_set]
    · refine yesIte ?_
      refine ⟨V.ref p, by rw [List.getElem?_set_self (by rw [wipe_length]; exact hjx)], p, _, _, _, rfl, rfl, SqT.of (sm _ _ e), atI_nat (j := 0) rfl, _, hDi, small1000 (by rw [List.length_map, List.length_take]; omega), fun b o e' => ?_, ?_⟩
      · have : b ≠ D := fun z => by rw [z, hD] at e'; cases e'
        rw [upd_ne this]; exact sm _ _ e'
      · rw [upd_same, List.take_add_one, hq]; simp
  · rintro H' ⟨sm, hDn⟩
    rw [List.length_map, pl, List.take_length] at hDn
    exact hd H' sm hDn
theorem ints_flat {rs : List (Int × Int)} : (rs.map fun p => V.int p.1).all flatV = true := by
  rw [List.all_map]; exact List.all_eq_true.mpr fun _ _ => rfl
def spLSure (K : PySem.W.Frag) : Sp := fun vs H Q _ => ∃ (k : Str) (w : Addr) (st : Sta) (h n p : Int), vs = [.str k, .ref w, .int h, .int n, .int p] ∧ StAt K H w st ∧ StG 900 st ∧ ∀ b H', Same H H' → (b = true → k ≠ "reserve" ∧ k ≠ "preempt") → Q (.bl b) H'
section
variable {P : Program} {wd : World} {K : PySem.W.Frag} {mg : Str → Option Value} {base : Heap} {f : Addr} {fd : FuncData}
theorem scLSure : FnScope ["kind", "world", "host", "namespace", "place", "size", "cells", "fence", "row"] ["kind", "world", "host", "namespace", "place"] (defScope sLSure) := ⟨rfl, rfl, rfl, by decide +kernel, rfl, by decide +kernel, by decide +kernel⟩
theorem ok_lsure (F : Fun K "_law_sure" "_law_sure" sLSure f fd) : FnOk P wd K mg base CX0 1 f fd ["kind","world","host","namespace","place"] (spLSure K) := by
  refine F.ok scLSure (fun vs H Q E h => ?_) (fun cdv A outer s H vs Q E hr h => ?_)
  · obtain ⟨k, w, st, hh, n, p, rfl, _⟩ := h
    rfl
  · obtain ⟨k, w, st, hh, n, pl, rfl, SA, G, q⟩ := h
    refine ⟨_, (pss_cons (ps_if (pt_cmp (pc_dnotin (hu_of hr) (pv 3) (pe_dget (hu_of hr) (pv 1) pe_str (fun _ _ => rfl))))
      (pss_one (ps_ret (pe_or (pe_cmpR op_eq (pv 0) pe_str (nomark _)) (pe_one (pe_cmpR op_eq (pv 0) pe_str (nomark _)))))) pss_nil)
      (pss_cons (ps_asg (pe_dget (hu_of hr) (pe_dget (hu_of hr) (pv 1) pe_str (fun _ _ => rfl)) (pv 3) (fun _ _ => rfl)) (pg_tup (by rfl) (pgs_cons (pg_name (i := 5) scLSure.nd rfl (Or.inl rfl)) (pgs_cons (pg_name (i := 6) scLSure.nd rfl (Or.inl rfl)) (pgs_cons (pg_name (i := 7) scLSure.nd rfl (Or.inl rfl)) L2.pgs_nil)))))
      (pss_cons (ps_if (pt_cmpR op_eq (pv 0) pe_str (nomark _))
      (pss_one (ps_ret (pe_cmp (pc_din (hu_of hr) (pv 4) (pv 6)) rfl))) pss_nil)
      (pss_cons (ps_if (pt_cmpR op_eq (pv 0) pe_str (nomark _))
      (pss_one (ps_ret (pe_cmpR op_notN (pe_ix ix_tup (pv 7) pe_int (fun _ _ => rfl)) pe_non (nomark _)))) pss_nil)
      (pss_cons (ps_if (pt_cmpR op_eq (pv 0) pe_str (nomark _))
      (pss_one (ps_ret (pe_cmpR op_in_seq (pv 2) (pe_lc (own := [("row", 8)]) (g := gName 8) (tt := tYes) (te := tOp (rIxT K) (tVar 8) (tC (.int 0))) (by rfl) scLSure.nd (pi_tup (pe_ix ix_tup (pv 7) pe_int (fun _ _ => rfl))) (blkOk_by (own := [("row", 8)]) (N := ["kind", "world", "host", "namespace", "place", "size", "cells", "fence", "row"]) (sc := defScope sLSure) (by decide +kernel)) (fun _ _ _ _ _ => pg_name (i := 8) scLSure.nd rfl (Or.inl rfl)) (fun _ _ _ _ _ => pts_nil) (fun _ _ _ _ _ => by exact (pe_ix ix_tup (pv 8) pe_int (fun _ _ => rfl)))) (by rfl)))) pss_nil)
      (pss_cons (ps_if (PW.pt (pw_or (pt_cmpR op_eq (pv 0) pe_str (nomark _)) (pw_or (pt_cmpR op_eq (pv 0) pe_str (nomark _)) (pw_or1 (pt_cmpR op_eq (pv 0) pe_str (nomark _))))))
      (pss_one (ps_ret pe_bl)) pss_nil)
      (pss_one (ps_ret pe_bl)))))))), ?_⟩
    obtain ⟨b1, b2, b3, ha, t1, t2, t3⟩ := id SA
    obtain ⟨kvs1, hk1, pr1, nd1⟩ := id t1
    rcases pr_look (R := SpcAt K H) eI_inj (k := n) pr1 with ⟨l0, hz⟩ | ⟨sp, z, l0, hz, az⟩
    · refine ⟨_, rfl, _, rfl, w, .ref b1, rfl, .inl ⟨_, .inr "spaces", .inl ha, rfl, rfl⟩, b1, none, rfl, .inl ⟨_, .inl n, .inl hk1, rfl, hz.symm⟩, _, rfl, chooseT rfl ?_⟩
      refine ⟨_, rfl, rfl, _, rfl, ?_⟩
      by_cases c : k = "make"
      · exact chooseT (decide_eq_true (by rw [c])) (q _ H (Same.refl _) fun _ => by rw [c]; decide)
      · refine chooseF (str_eqF c) ?_
        refine ⟨_, rfl, rfl, q _ H (Same.refl _) fun e => ?_⟩
        have := of_decide_eq_true e
        cases this; decide
    · refine ⟨_, rfl, _, rfl, w, .ref b1, rfl, .inl ⟨_, .inr "spaces", .inl ha, rfl, rfl⟩, b1, some z, rfl, .inl ⟨_, .inl n, .inl hk1, rfl, hz.symm⟩, _, rfl, chooseF rfl ?_⟩
      obtain ⟨p, cc, fv, rfl, hp, ⟨kc, hcc, prc, ndc⟩, ⟨fa, fr, fhv, rfl, f1, f2, f4⟩⟩ := az
      have rgl : sp.rg.length ≤ 900 := (G.rg _ (look_mem l0)).2
      refine ⟨_, rfl, w, .ref b1, rfl, .inl ⟨_, .inr "spaces", .inl ha, rfl, rfl⟩, _, rfl, b1, .ref p, rfl, .inl ⟨_, .inl n, .inl hk1, rfl, hz.symm⟩, p, _, rfl, hp, rfl, _, _, rfl, _, _, rfl, _, _, rfl, rfl, ?_⟩
      refine ⟨_, rfl, rfl, _, rfl, ?_⟩
      by_cases c1 : k = "trim"
      · refine chooseT (decide_eq_true (by rw [c1])) ?_
        exact ⟨_, rfl, _, rfl, cc, _, rfl, .inl ⟨_, .inl pl, .inl hcc, rfl, rfl⟩, q _ H (Same.refl _) fun _ => by rw [c1]; decide⟩
      refine chooseF (str_eqF c1) ?_
      refine ⟨_, rfl, rfl, _, rfl, ?_⟩
      by_cases c2 : k = "release"
      · refine chooseT (decide_eq_true (by rw [c2])) ?_
        exact ⟨_, rfl, fa, _, _, _, rfl, rfl, f1, atI_nat (j := 1) rfl, rfl, q _ H (Same.refl _) fun _ => by rw [c2]; decide⟩
      refine chooseF (str_eqF c2) ?_
      refine ⟨_, rfl, rfl, _, rfl, ?_⟩
      by_cases c3 : k = "leave"
      · refine chooseT (decide_eq_true (by rw [c3])) ?_
        refine ⟨_, rfl, _, rfl, fa, _, _, _, rfl, rfl, f1, atI_nat (j := 0) rfl, fr, rfl, ⟨_, f2.choose_spec.1⟩, fun D hD => ?_⟩
        refine lc_hosts f2 hD (by omega) (show 8 < 9 by decide) fun H' sm hDl => ?_
        exact ⟨D, _, rfl, .inl (SqL.of hDl), rfl, ints_flat, q _ H' sm fun _ => by rw [c3]; decide⟩
      refine chooseF (str_eqF c3) ?_
      refine ⟨_, rfl, rfl, _, rfl, ?_⟩
      by_cases c4 : k = "make"
      · refine chooseT (decide_eq_true (by rw [c4])) ?_
        exact q _ H (Same.refl _) fun e => nomatch e
      refine chooseF (str_eqF c4) ?_
      refine ⟨_, rfl, rfl, _, rfl, ?_⟩
      by_cases c5 : k = "reserve"
      · refine chooseT (decide_eq_true (by rw [c5])) ?_
        exact q _ H (Same.refl _) fun e => nomatch e
      refine chooseF (str_eqF c5) ?_
      refine ⟨_, rfl, rfl, _, rfl, ?_⟩
      by_cases c6 : k = "preempt"
      · refine chooseT (decide_eq_true (by rw [c6])) ?_
        exact q _ H (Same.refl _) fun e => nomatch e
      · refine chooseF (str_eqF c6) ?_
        exact q _ H (Same.refl _) fun _ => ⟨c5, c6⟩
end
end Sg

set_option Elab.async false
set_option linter.all false
set_option maxRecDepth 100000
set_option maxHeartbeats 4000000
namespace Sg
open PySem PySem.Spec PyProof.Rows L2
theorem ints_dp {K : PySem.W.Frag} {H : Hp} : ∀ {l : List Int}, DpAll K H (l.map V.int) (l.map PyData.int)
  | [] => .nil
  | x :: l => .cons (.int x) ints_dp
theorem ints_lay : ∀ {l : List Int}, PyData.canLayAll0 (l.map PyData.int) = true ∧ PyData.depthAll (l.map PyData.int) = 0
  | [] => ⟨by simp [PyData.canLayAll0], by simp [PyData.depthAll]⟩
  | x :: l => by
    obtain ⟨a, b⟩ := ints_lay (l := l)
    exact ⟨by simp [PyData.canLayAll0, PyData.canLay0, a], by simp [PyData.depthAll, PyData.depth, b]⟩
theorem ints_sh {l : List Int} : SeqAt.shaped (.list (l.map PyData.int)) = true := shaped_list ints_lay.1 (by rw [ints_lay.2]; decide)
theorem ints_nil {l : List Int} : PyData.eqv (.list (l.map PyData.int)) (.list []) = l.isEmpty := by
  cases l with
  | nil => simp [PyData.eqv, PyData.eqvAll]
  | cons => simp [PyData.eqv, PyData.eqvAll]
/-! ### a step in a space that is not there -/
def BdN (M : Int) : Bd → Prop
  | .write n p v => n.natAbs ≤ M ∧ p.natAbs ≤ M ∧ v.natAbs ≤ M
  | .trim n p => n.natAbs ≤ M ∧ p.natAbs ≤ M
  | .make n z => n.natAbs ≤ M ∧ z.natAbs ≤ M
  | .remove n => n.natAbs ≤ M
  | .snap n => n.natAbs ≤ M
  | .drop n m => n.natAbs ≤ M ∧ m.natAbs ≤ M
  | .register n => n.natAbs ≤ M
  | .leave n _ => n.natAbs ≤ M
  | .reserve n w => n.natAbs ≤ M ∧ w ∈ (["write", "alone"] : List Str)
  | .release n => n.natAbs ≤ M
  | .preempt n v w => n.natAbs ≤ M ∧ v.natAbs ≤ M ∧ ∀ x, w = some x → x ∈ (["write", "alone"] : List Str)
  | .mark _ => True
def IsStep (K : PySem.W.Frag) (st : Sta) (M : Int) (H : Hp) (v : V) : Prop := ∃ stp h b, v = .ref stp ∧ 0 ≤ h ∧ h < 4 ∧ BdN M b ∧ (∀ d, b = .mark d → d = told4 st h) ∧ ∀ o, StepAt K H stp ⟨o, h, sessN st h b, cntN st h b, b⟩
def spLStray (K : PySem.W.Frag) : Sp := fun vs H Q _ => ∃ (c : Int) (w : Addr) (st : Sta) (o : Int), vs = [.int c, .ref w, .int o] ∧ StAt K H w st ∧ 0 ≤ o ∧ o ≤ 1000 ∧ ∀ v H', Same H H' → (v = .non ∨ IsStep K st 1000 H' v) → Q v H'
section
variable {P : Program} {wd : World} {K : PySem.W.Frag} {mg : Str → Option Value} {base : Heap} {f fD fN : Addr} {fd fdD fdN : FuncData}
/-- (kind, fields) made anew -/
def P2 (H : Hp) (p : Addr) (k : Str) (ys : List V) : Prop := ∃ f, H p = some (.tup [.str k, .ref f]) ∧ H f = some (.tup ys)
theorem P2.same {H H' : Hp} {p : Addr} {k : Str} {ys : List V} (h : P2 H p k ys) (s : Same H H') : P2 H' p k ys := by
  obtain ⟨f, a, b⟩ := h
  exact ⟨f, s _ _ a, s _ _ b⟩
theorem nxt_e {D : Ends} {σ : L2.St} {H : Hp} (h : D.nx σ H) : tNext D σ H := h
theorem asg_lst {ta : TA} {g : TG} {r : TS} {D : Ends} {σ : L2.St} {H : Hp} (h : tLst ta σ H fun x H1 => g x σ H1 fun σ' H' => r D σ' H') : tSeq (tAsg (tLst ta) g) r D σ H := h
theorem lst_e {ta : TA} {σ : L2.St} {H : Hp} {Q : VK} (h : ta σ H fun vs H1 => vs.length ≤ sizeLine ∧ ∀ p, H1 p = none → Q (.ref p) (upd H1 p (.lst vs))) : tLst ta σ H Q := h
theorem cons_e {te : TE} {t : TA} {σ : L2.St} {H : Hp} {Q : List V → Hp → Prop} (h : te σ H fun x H1 => t σ H1 fun xs H2 => Q (x :: xs) H2) : tCons te t σ H Q := h
theorem step_te {σ : L2.St} {H : Hp} {Q : VK} {k : Str} {ta : TA} {ys : List V} (hl : ys.length ≤ 3) (ha : ∀ R : List V → Hp → Prop, R ys H → ta σ H R) (q : ∀ p H', Same H H' → P2 H' p k ys → Q (.ref p) H') : tTup (tCons (tC (.str k)) (tCons (tTup ta) tNil)) σ H Q := by
  refine ha _ ⟨Nat.le_of_lt (small1000 (by omega)), fun f hf => ⟨by show 2 ≤ sizeLine; decide, fun p hp => ?_⟩⟩
  have s1 := same_new (o := .tup ys) hf
  have s2 := same_new (o := .tup [V.str k, V.ref f]) hp
  exact q p _ (s1.trans s2) ⟨f, upd_same, s2 _ _ upd_same⟩
end
end Sg

set_option Elab.async false
set_option linter.all false
set_option maxRecDepth 100000
set_option maxHeartbeats 4000000
namespace Sg
open PySem PySem.Spec PyProof.Rows L2
/-! ### what stays of a state: rows in order, marks that are plain -/
def SrtS (st : Sta) : Prop := ∀ p ∈ st.sp, SrtR p.2.rg
theorem SrtS.within {st : Sta} {e : Eff} {k : Int} {s : Spc} (h : SrtS st) (hs : (k, s) ∈ st.sp) : SrtS (within s e st) := by
  have r1 : SrtR s.rg := h _ hs
  have put : ∀ n (s' : Spc), SrtR s'.rg → SrtS { st with sp := putI st.sp n s' } := fun n s' hs' p hp => by
    rcases mem_put hp with hp | rfl
    · exact h p hp
    · exact hs'
  cases e with
  | gone n o => exact fun p hp => h p (mem_del hp)
  | snap n m b => exact h
  | place n p v => exact put _ _ r1
  | key n x k =>
    cases k with
    | none => exact put _ _ (out_srt r1)
    | some k => exact put _ _ (ins_srt r1)
  | hold n hd => exact put _ _ r1
  | host _ _ _ _ => exact h
  | told _ _ => exact h
  | space _ _ => exact h
theorem srt_space {st : Sta} {m z : Int} (h : SrtS st) : SrtS (afterE (.space m z) st) := fun p hp => by
  rcases mem_put hp with hp | rfl
  · exact h p hp
  · exact List.Pairwise.nil
theorem SrtS.after {st : Sta} {e : Eff} (h : SrtS st) : SrtS (afterE e st) := by
  have inn : ∀ m, spaceOf e = some m → SrtS (afterE e st) := fun m hm => by
    rw [after_in hm]
    cases hl : lookI st.sp m with
    | none => exact h
    | some s => exact h.within (look_mem hl)
  cases e with
  | host hh s c an => exact h
  | told hh d =>
    cases hl : lookI st.mr hh with
    | none => simp only [afterE, hl]; exact h
    | some m => rw [after_told hl]; exact h
  | space m z => exact srt_space h
  | gone m o => exact inn m rfl
  | snap m _ _ => exact inn m rfl
  | place m _ _ => exact inn m rfl
  | key m _ _ => exact inn m rfl
  | hold m _ => exact inn m rfl
theorem SrtS.afters : ∀ {es : List Eff} {st : Sta}, SrtS st → SrtS (es.foldl (fun s e => afterE e s) st)
  | [], _, h => h
  | e :: es, _, h => SrtS.afters (es := es) (h.after (e := e))
theorem SrtS.record {st : Sta} {r : Rc} (h : SrtS st) : SrtS (afterR st r) := SrtS.afters (es := effsR r) (st := { st with o := r.o }) h
/-- a mark's data: plain, and not deep -/
structure MrkG (m : Mrk) : Prop where
  al : m.an.canLay0 = true
  ad : m.an.depth ≤ 1
  tl : m.td.canLay0 = true
  td : m.td.depth ≤ 2
theorem MrkG.ok {m : Mrk} (h : MrkG m) : MrkOk m := by
  refine ⟨by simp [markD, PyData.canLay0, PyData.canLayAll0, h.al, h.tl], ?_⟩
  have := h.ad; have := h.td
  simp only [markD, PyData.depth, PyData.depthAll]; omega
def MrkS (st : Sta) : Prop := ∀ p ∈ st.mr, MrkG p.2
theorem answ_g {k : Str} {o : Int} : (answD k o).canLay0 = true ∧ (answD k o).depth ≤ 1 := by
  have ok : PyData.strOk ("ok" : Str) = true := by decide +kernel
  unfold answD
  split
  · exact ⟨by simp [PyData.canLay0], by simp [PyData.depth]⟩
  · split
    · exact ⟨by simp [PyData.canLay0, PyData.canLayAll0, ok], by simp [PyData.depth, PyData.depthAll]⟩
    · exact ⟨by simp [PyData.canLay0, PyData.canLayAll0, ok], by simp [PyData.depth, PyData.depthAll]⟩
theorem toldOf_g {st : Sta} {h : Int} (g : MrkS st) : (toldOf st h).canLay0 = true ∧ (toldOf st h).depth ≤ 2 := by
  unfold toldOf
  cases e : lookI st.mr h with
  | none => exact ⟨by simp [PyData.canLay0], by simp [PyData.depth]⟩
  | some m => exact ⟨(g _ (look_mem e)).tl, (g _ (look_mem e)).td⟩
theorem told4_g {st : Sta} {h : Int} (g : MrkS st) : (told4 st h).canLay0 = true ∧ (told4 st h).depth ≤ 2 := by
  unfold told4
  cases e : lookI st.mr h with
  | none => exact ⟨by simp [PyData.canLay0], by simp [PyData.depth]⟩
  | some m =>
    have gm := g _ (look_mem e)
    by_cases c : m.c = 0
    · simp only [if_pos c]; exact ⟨gm.tl, gm.td⟩
    · simp only [if_neg c]
      refine ⟨by simp [PyData.canLay0, PyData.canLayAll0, gm.al], ?_⟩
      have h1 : m.an.depth ≤ 1 := gm.ad
      simp only [PyData.depth, PyData.depthAll]; omega
/-- the marks behind a record: as law_eq says, one mark alone is put -/
theorem MrkS.record {st : Sta} {r : Rc} (g : MrkS st) (hm : ∀ d, r.b = .mark d → d.canLay0 = true ∧ d.depth ≤ 2) : MrkS (afterR st r) := by
  rw [law_eq]
  intro p hp
  rcases mem_put hp with hp | rfl
  · exact g p hp
  · have a := answ_g (k := kindS r.b) (o := r.o)
    have t : (toldL st r).canLay0 = true ∧ (toldL st r).depth ≤ 2 := by
      unfold toldL
      split
      · rename_i d e; exact hm d e
      · exact toldOf_g g
    exact ⟨a.1, a.2, t.1, t.2⟩
theorem bd_ok {M : Int} {b : Bd} (h : BdN M b) : bdOk b := by
  have two : ∀ x ∈ (["write", "alone"] : List Str), PyData.strOk x = true := by decide +kernel
  cases b with
  | reserve n w => exact two w h.2
  | preempt n v w =>
    cases w with
    | none => exact True.intro
    | some w => exact two w (h.2.2 w rfl)
  | _ => exact True.intro
end Sg

set_option Elab.async false
set_option linter.all false
set_option maxRecDepth 100000
set_option maxHeartbeats 4000000
namespace Sg
open PySem PySem.Spec PyProof.Rows L2
/-! ### the law's own def, called where no text of a thing is under way -/
structure LawG (P : Program) (w : World) (K : PySem.W.Frag) (mg : Str → Option Value) (base : Heap) (k : Nat) (f : Addr) (fd : FuncData) (ps : List Str) (sp : Sp) : Prop where
  ar : ∀ vs G Q E, sp vs G Q E → vs.length = ps.length
  go : ∀ (B : Around) (fr : List Env) (t : Shared) (G : Hp) (as : Args) (us : List Value) (vs : List V) (Q : VK) (E : XK), B.guards = some [] → Room k B → Env0 P w K mg base B fr t G →
    BindsTo t fd as (ps.zip us) → Vals vs us → sp vs G Q E → codeAny (model P w) B (.call (.ref f) as) (CR CX0 fr P w G t Q E) t
section
variable {P : Program} {w : World} {K : PySem.W.Frag} {mg : Str → Option Value} {base : Heap}
theorem lawG_of {x qual : Str} {st : Stmt} {f : Addr} {fd : FuncData} {N ps : List Str} {k : Nat} {sp : Sp} (F : Fun K x qual st f fd) (S : FnScope N ps (defScope st)) (ar : ∀ vs G Q E, sp vs G Q E → vs.length = ps.length)
    (body : ∀ (cv : Value) (B : Around) (fr : List Env) (t : Shared) (G : Hp) (vs : List V) (Q : VK) (E : XK), (B.deeper (envOfC qual (defScope st) t.heap.objs.size f cv)).guards = some [] → Room k (B.deeper (envOfC qual (defScope st) t.heap.objs.size f cv)) → sp vs G Q E →
      ∃ rd, PSs (cxOf CX0 P w K mg base N qual (defScope st) f cv B fr t G E).nox (defBody st) rd ∧ rd { nx := fun _ G' => Q .non G', rt := Q } (start N vs) G) : LawG P w K mg base (k + 1) f fd ps sp := by
  obtain ⟨o1, o2, v1, v2, v3, a1, cv, v4, sl, rfl, lk, cd⟩ := F.ex
  refine ⟨ar, fun B fr t G as us vs Q E hg hr e0 hb r hsp => ?_⟩
  have kin : K.In t.heap := e0.mod.kin.keeps fun b o e => (e0.bs b o e).1
  have nl : t.heap.NoLimit := e0.mod.nolimit.keeps fun b o e => (e0.bs b o e).1
  have kinds : ∀ z ∈ ps.zip us, (defScope st).names.lookup z.1 = some .local ∨ ((defScope st).names.lookup z.1 = some .cell ∧ ((cellsFrom (t.heap.objs.size + 1) (defScope st).names []).lookup z.1).isSome = true) := by
    rintro ⟨n, v⟩ hz
    have hn := S.par n (List.of_mem_zip hz).1
    exact hn.imp id fun q => ⟨q, PySem.W.cellsFrom_some _ _ _ (.inl q)⟩
  refine codeAny_call_function hr.depth (kin _ _ lk) rfl S.co S.gen rfl (PySem.W.codeRec_of kin cd) (hb _ _ _ _ (wpAny_newFunctionEnv_cells S.kind kinds fun env he t1 x => ?_))
  subst he
  refine ⟨nl.keeps x.toInCall.keep, codeAny_func ?_⟩
  obtain ⟨rd, hrd, q⟩ := body cv B fr t G vs Q E hg (hr.deeper _) hsp
  have I := inv_start (CX := CX0) (E := E) S hr.hd e0 (ar _ _ _ _ hsp) r x
  refine wpAny_mono (hrd.nox.run [] t1 _ G _ I q) (fun fl t2 ht => ?_) fun e t2 ht => ht
  cases fl with
  | ret u => obtain ⟨v, _, G', J, rv, q'⟩ := ht; exact ⟨v, G', J.os, J.bare, J.base, J.hok, rv, q'⟩
  | next => obtain ⟨_, G', J, q'⟩ := ht; exact ⟨V.non, G', J.os, J.bare, J.base, J.hok, rfl, q'⟩
  | brk => obtain ⟨_, _, _, q'⟩ := ht; exact q'.elim
  | cont => obtain ⟨_, _, _, q'⟩ := ht; exact q'.elim
/-- the heap in which the script alone is told -/
def onlyA (K : PySem.W.Frag) (a : Addr) (ob : Obj) (xs : List V) : Hp := fun b => if b = a ∧ K.lookup a = none then some (.frz ob (.lst xs)) else none
theorem onlyA_no {a b : Addr} {ob : Obj} {xs : List V} (h : b ≠ a) : onlyA K a ob xs b = none := if_neg fun z => h z.1
theorem onlyA_cs {a b : Addr} {ob : Obj} {xs : List V} : onlyA K a ob xs b = none ∨ (b = a ∧ K.lookup a = none ∧ onlyA K a ob xs b = some (.frz ob (.lst xs))) := by
  by_cases h : b = a ∧ K.lookup a = none
  · exact .inr ⟨h.1, h.2, if_pos h⟩
  · exact .inl (if_neg h)
theorem lawG_call {mb : Str → Option Value} {k : Nat} {fa a : Addr} {fd : FuncData} {x : Str} {sp : Sp} {t : Shared} {vs : List Value} {ns : List Int} (kin : K.In t.heap) (nsG : t.heap.Ns mainGlobals mg) (nsB : t.heap.Ns builtinsNs mb)
    (bb : ∀ z : Str, z ≠ "__name__" → mb z = bootBuiltins z) (nl : t.heap.NoLimit) (g0 : t.gens = #[]) (ha : t.heap.get? a = some { cls := .type "list", data := .seq vs.toArray }) (hi : IntsAre vs ns) (hz : ns.length ≤ sizeLine) (hr : Room k callerA)
    (F : ∀ bs : Heap, K.In bs → bs.Ns mainGlobals mg → LawG P w K mg bs k fa fd [x] sp) (bd : ∀ (s : Shared) (u : Value), BindsTo s fd ⟨[u], []⟩ [(x, u)])
    (hsp : ∀ G : Hp, Only G → SqL K G a (ns.map V.int) → sp [.ref a] G (fun v _ => v = .bl true) fun _ _ _ => False) :
    codeAny (model P w) callerA (.call (.ref fa) ⟨[.ref a], []⟩) (fun r t' => r = .ok (.ret (.bool true)) ∧ OldK t.heap t'.heap ∧ t'.os = t.os ∧ AllBare t'.gens) t := by
  have rv := vals_ints hi
  have nEq : ns.length = vs.length := by have := rv.length; rwa [List.length_map] at this
  let G : Hp := onlyA K a { cls := .type "list", data := .seq vs.toArray } (ns.map V.int)
  have cs : ∀ b, G b = none ∨ (b = a ∧ K.lookup a = none ∧ G b = some (.frz { cls := .type "list", data := .seq vs.toArray } (.lst (ns.map V.int)))) := fun b => onlyA_cs
  have only : Only G := fun b => (cs b).imp id fun z => ⟨_, _, z.2.2⟩
  have sq : SqL K G a (ns.map V.int) := by
    cases hk : K.lookup a with
    | none => exact .inl (.inr ⟨_, if_pos ⟨rfl, hk⟩⟩)
    | some o =>
      have e := kin a o hk
      rw [ha] at e
      cases e
      exact .inr ⟨_, vs.toArray, _, hk, rfl, rfl, rfl, by rw [List.size_toArray, ← nEq]; exact hz, by simpa using rv⟩
  have ok : HOk P w G t.heap := fun b u e => by
    rcases cs b with n | ⟨rfl, _, n⟩
    · rw [n] at e; cases e
    · rw [n] at e; cases e
      exact ⟨ha, by rw [List.length_map]; exact hz, vs, _, rv, ha⟩
  have bs_of : ∀ {b : Addr} {o : Obj}, t.heap.get? b = some o → G b = none → (hidT t.heap G).get? b = some o := fun e n => hidT_get e n
  have nsH : ∀ {b : Addr} {m : Str → Option Value}, t.heap.Ns b m → (hidT t.heap G).Ns b m := by
    rintro b m ⟨o, es, ep, e, d, rest⟩
    refine ⟨o, es, ep, bs_of e ?_, d, rest⟩
    rcases cs b with n | ⟨rfl, _, _⟩
    · exact n
    · rw [ha] at e; cases e; exact absurd d (by intro z; cases z)
  have kinH : K.In (hidT t.heap G) := fun b o e => bs_of (kin b o e) (by
    rcases cs b with n | ⟨rfl, l0, _⟩
    · exact n
    · rw [l0] at e; cases e)
  obtain ⟨mc, l1, l2⟩ := nl
  have e0 : Env0 P w K mg (hidT t.heap G) callerA [] t G :=
    { frames := rfl, mod := ⟨kinH, nsH nsG, ⟨mb, nsH nsB, bb⟩, ⟨mc, nsH l1, l2⟩⟩, bs := fun b o e => of_hidT e, bsz := Nat.le_of_eq (hidT_size _ _), funs := trivial, frf := fun b hb => (List.not_mem_nil (show b ∈ ([] : List Addr) from hb)).elim, hok := ok, bare := .of_eq g0 }
  refine codeAny_mono ((F _ kinH (nsH nsG)).go callerA [] t G ⟨[.ref a], []⟩ [.ref a] [.ref a] _ _ rfl hr e0 (bd t (.ref a)) (.cons rfl .nil) (hsp G only sq)) fun r t' h => ?_
  match r, h with
  | .error e, h => exact (show False from h).elim
  | .ok .next, h => exact (show False from h).elim
  | .ok .brk, h => exact (show False from h).elim
  | .ok .cont, h => exact (show False from h).elim
  | .ok (.ret u), ⟨v, G', os, bare, un, ok', r', q⟩ =>
    obtain rfl : v = .bl true := q
    obtain rfl : u = Value.bool true := r'
    refine ⟨rfl, OldK.of_keep fun b o e => ?_, os, bare⟩
    rcases cs b with n | ⟨rfl, _, n⟩
    · exact un.keep b o e n (fun z => List.not_mem_nil (show b ∈ ([] : List Addr) from z)) (by simp)
    · obtain ⟨e2, _⟩ := ok' b _ (un.frzs b _ _ n)
      rw [ha] at e; cases e; exact e2
theorem walkG {l : PySem.W.OpenLaw} {n k : Nat} {q : Program} {loose : List Str} {XP : (Str → Option Value) → Heap → Prop} {YP : World → Heap → Prop} {d : DefRec} {KK : Params → PySem.W.Frag} {sp : PySem.W.Frag → Sp} {x : Str} (hn : l.most = some n) (h2 : n ≤ sizeLine) (hdf : d.params.defaults = []) (hr : Room k callerA)
    (hY : ∀ (wd : World) (h : Heap), YP wd h → (KK wd.params).In h)
    (F : ∀ (wd : World) (mg : Str → Option Value) (fa : Addr) (h : Heap), (KK wd.params).In h → h.Ns mainGlobals mg → mg d.name = some (.ref fa) →
      ∃ fd : FuncData, (∀ (s : Shared) (u : Value), BindsTo s fd ⟨[u], []⟩ [(x, u)]) ∧ ∀ bs : Heap, (KK wd.params).In bs → bs.Ns mainGlobals mg → LawG l.prog wd (KK wd.params) mg bs k fa fd [x] (sp (KK wd.params)))
    (hsp : ∀ (K : PySem.W.Frag) (G : Hp) (a : Addr) (ns : List Int), ns.length ≤ n → Only G → SqL K G a (ns.map V.int) → sp K [.ref a] G (fun v _ => v = .bl true) fun _ _ _ => False) :
    PySem.W.WalkO q loose XP YP l.row.toRowW d [] (fun f vs => PySem.call f vs) := by
  refine Att.attach_call hn hdf fun wd _ t mg mb fa _ _ _ _ a vs ns G0 Y _ _ _ hmg hobj hints hlen hg => ?_
  obtain ⟨fd, b, hF⟩ := F wd mg fa _ (hY wd _ Y) G0.T.g hmg
  exact lawG_call (hY wd _ Y) G0.T.g G0.T.b G0.T.builtins G0.T.nolimit hg hobj hints (Nat.le_trans hlen h2) hr hF b fun G hO hS => hsp _ G a ns hlen hO hS
end
end Sg

set_option Elab.async false
set_option linter.all false
set_option maxRecDepth 100000
set_option maxHeartbeats 4000000
namespace Sg
open PySem PySem.Spec PyProof.Rows L2
/-! ### the text of a state -/
theorem pairs_mem {α β : Type} {F G : α → β → Prop} : ∀ {l : List α} {m : List β}, (∀ a b, b ∈ m → F a b → G a b) → Paired F l m → Paired G l m
  | _, _, _, .nil => .nil
  | _, _, f, .cons r t => .cons (f _ _ List.mem_cons_self r) (pairs_mem (fun a b hb => f a b (List.mem_cons_of_mem _ hb)) t)
/-- what a value is read as, and sys.modules is not met on the way -/
def RdV (h : Heap) (v : V) (d : PyData) : Prop := ∀ u, RelV v u → ∃ as, Reads h u d as ∧ sysModules ∉ as
def keyDs : List Key → List PyData := List.map keyD
section
variable {X : Cx} {pins : List (Addr × Obj)} {σ : L2.St} {H : Hp} {s : Shared}
mutual
theorem flat_rd (I : L2.Inv X pins σ H s) : ∀ (d : PyData) (v : V) (u : Value), tupO d = true → Dp X.K H v d → RelV v u → Reads s.heap u d []
  | .none, _, _, _, h, r => by cases h; cases r; exact .none
  | .bool b, _, _, _, h, r => by cases h; cases r; exact .bool b
  | .int i, _, _, _, h, r => by cases h; obtain ⟨t, rfl⟩ := r; exact .int i t
  | .str x, _, _, _, h, r => by cases h; obtain ⟨t, rfl⟩ := r; exact .str x t
  | .tuple ds, _, _, f, h, r => by
    cases h with
    | tup hs ha =>
      cases r
      obtain ⟨its, rv, ⟨o, ho, hc, n, hd⟩, _⟩ := I.tuple hs
      exact .tuple ho hc hd (flat_rds I ds _ its (by simpa [tupO] using f) ha rv)
  | .list _, _, _, f, _, _ => by simp [tupO] at f
  | .dict _, _, _, f, _, _ => by simp [tupO] at f
theorem flat_rds (I : L2.Inv X pins σ H s) : ∀ (ds : List PyData) (vs : List V) (us : List Value), tupOs ds = true → DpAll X.K H vs ds → Vals vs us → ReadsAll s.heap us ds []
  | [], _, _, _, h, r => by cases h; cases r; exact .nil
  | d :: ds, _, _, f, h, r => by
    have f' : tupO d = true ∧ tupOs ds = true := by simpa [tupOs] using f
    cases h with
    | cons h1 h2 => cases r with
      | cons r1 r2 => exact ReadsAll.cons (as := []) (bs := []) (flat_rd I d _ _ f'.1 h1 r1) (flat_rds I ds _ _ f'.2 h2 r2)
end
theorem rd_flat (I : L2.Inv X pins σ H s) {v : V} {d : PyData} (h : Dp X.K H v d) (f : tupO d = true) : RdV s.heap v d := fun u r => ⟨[], flat_rd I d v u f h r, List.not_mem_nil⟩
theorem rds_of {h : Heap} : ∀ {xs : List V} {ds : List PyData} {us : List Value}, Paired (RdV h) xs ds → Vals xs us → ∃ as, ReadsAll h us ds as ∧ sysModules ∉ as
  | _, _, _, .nil, .nil => ⟨[], .nil, List.not_mem_nil⟩
  | _, _, _, .cons p ps, .cons r rs => by
    obtain ⟨as, a1, a2⟩ := p _ r
    obtain ⟨bs, b1, b2⟩ := rds_of ps rs
    exact ⟨_, .cons a1 b1, fun z => (List.mem_append.mp z).elim a2 b2⟩
theorem rd_tup (I : L2.Inv X pins σ H s) {p : Addr} {xs : List V} {ds : List PyData} (h : SqT X.K H p xs) (hp : Paired (RdV s.heap) xs ds) : RdV s.heap (.ref p) (.tuple ds) := fun u r => by
  obtain rfl : u = Value.ref p := r
  obtain ⟨its, rv, ⟨o, ho, hc, n, hd⟩, _⟩ := I.tuple h
  obtain ⟨as, a1, a2⟩ := rds_of hp rv
  exact ⟨as, .tuple ho hc hd a1, a2⟩
theorem key_rd {h : Heap} {k : Key} {u : Value} (e : keyIs k u = true) : Reads h u (keyD k) [] := by
  rcases keyIs_shape e with ⟨i, t, rfl, rfl⟩ | ⟨x, t, rfl, rfl⟩
  · exact .int i t
  · exact .str x t
/-- the entries of a dict with whole numbers and texts as keys -/
theorem pairs_rd {P : Program} {w : World} {h : Heap} {κ : Type} : ∀ {es : List DictEntry} {vs : List (Key × Value)} {kvs : List (Key × V)} {l : List κ} {kd : κ → Key} {f : κ → PyData}, Pairs (mixKind P w) es vs → KV kvs vs → Paired (fun (p : Key × V) (q : κ) => p.1 = kd q ∧ RdV h p.2 (f q)) kvs l →
    ReadsAll h (es.map (·.key)) (l.map fun q => keyD (kd q)) [] ∧ ∃ bs, ReadsAll h (es.map (·.val)) (l.map f) bs ∧ sysModules ∉ bs
  | _, _, _, _, _, _, .nil, .nil, .nil => ⟨.nil, [], .nil, List.not_mem_nil⟩
  | _, _, _, _, kd, f, .cons a b t, .cons r rs, .cons p ps => by
    obtain ⟨i1, bs, i2, i3⟩ := pairs_rd t rs ps
    obtain ⟨as, a1, a2⟩ := p.2 _ r.2
    refine ⟨ReadsAll.cons (as := []) (bs := []) ?_ i1, _, ReadsAll.cons (as := as) ?_ i2, fun z => (List.mem_append.mp z).elim a2 i3⟩
    · have := key_rd (h := h) a
      rw [← r.1, p.1] at this; exact this
    · rw [← b] at a1; exact a1
theorem rd_dK (I : L2.Inv X pins σ H s) {p : Addr} {kvs : List (Key × V)} {κ : Type} {l : List κ} {kd : κ → Key} {f : κ → PyData} (h : H p = some (.dK kvs)) (hp : Paired (fun (p : Key × V) (q : κ) => p.1 = kd q ∧ RdV s.heap p.2 (f q)) kvs l) :
    RdV s.heap (.ref p) (.dict (l.map fun q => (keyD (kd q), f q))) := fun u r => by
  obtain rfl : u = Value.ref p := r
  obtain ⟨_, ne, vs, kv, o, es, ep, h1, h2, h3, _, h5, _⟩ := dk_of I.hok h
  obtain ⟨a1, bs, a2, a3⟩ := pairs_rd (h := s.heap) h5 kv hp
  refine ⟨p :: [] ++ bs, .dict h1 h2.1 h3 ?_ ?_, ?_⟩
  · rw [List.map_map]; exact a1
  · rw [List.map_map]; exact a2
  · intro z
    rcases List.mem_cons.mp z with z | z
    · rw [z] at ne; simp at ne
    · exact a3 z
theorem keys_vals : ∀ {k : List Key} {its : List Value} {h : Heap}, Vals (k.map kV) its → ReadsAll h its (k.map keyD) []
  | [], _, _, .nil => .nil
  | .inl i :: k, _, _, .cons r rs => by
    obtain ⟨t, rfl⟩ := r
    exact ReadsAll.cons (as := []) (bs := []) (.int i t) (keys_vals rs)
  | .inr x :: k, _, _, .cons r rs => by
    obtain ⟨t, rfl⟩ := r
    exact ReadsAll.cons (as := []) (bs := []) (.str x t) (keys_vals rs)
theorem tabs_rd (I : L2.Inv X pins σ H s) {κ : Type} : ∀ {kvs : List (List Key × V)} {xs : List (List Key × Addr × Value)} {l : List κ} {kd : κ → List Key} {f : κ → PyData}, KT H kvs xs → Paired (fun (p : List Key × V) (q : κ) => p.1 = kd q ∧ RdV s.heap p.2 (f q)) kvs l →
    ReadsAll s.heap ((xs.map (entryOfKey (tupleKind (mixKind X.prog X.w)))).map (·.key)) (l.map fun q => topD (kd q)) [] ∧ ∃ bs, ReadsAll s.heap ((xs.map (entryOfKey (tupleKind (mixKind X.prog X.w)))).map (·.val)) (l.map f) bs ∧ sysModules ∉ bs
  | _, _, _, _, _, .nil, .nil => ⟨.nil, [], .nil, List.not_mem_nil⟩
  | _, _, _, kd, f, .cons r rs, .cons p ps => by
    obtain ⟨i1, bs, i2, i3⟩ := tabs_rd I rs ps
    obtain ⟨as, a1, a2⟩ := p.2 _ r.2.2
    refine ⟨ReadsAll.cons (as := []) (bs := []) ?_ i1, _, ReadsAll.cons (as := as) a1 i2, fun z => (List.mem_append.mp z).elim a2 i3⟩
    obtain ⟨its, rv, ⟨o, ho, hc, n, hd⟩, _⟩ := I.tuple (SqT.of (K := X.K) r.2.1)
    have := keys_vals (h := s.heap) rv
    rw [p.1] at this
    exact .tuple ho hc hd this
theorem rd_dT (I : L2.Inv X pins σ H s) {p : Addr} {kvs : List (List Key × V)} {κ : Type} {l : List κ} {kd : κ → List Key} {f : κ → PyData} (h : H p = some (.dT kvs)) (hp : Paired (fun (p : List Key × V) (q : κ) => p.1 = kd q ∧ RdV s.heap p.2 (f q)) kvs l) :
    RdV s.heap (.ref p) (.dict (l.map fun q => (topD (kd q), f q))) := fun u r => by
  obtain rfl : u = Value.ref p := r
  obtain ⟨_, ne, xs, kt, o, es, ep, h1, h2, h3, h4, _, _⟩ := dt_of I.hok h
  obtain ⟨a1, bs, a2, a3⟩ := tabs_rd I kt hp
  refine ⟨p :: [] ++ bs, .dict h1 h2.1 h3 ?_ ?_, ?_⟩
  · rw [List.map_map, h4]; exact a1
  · rw [List.map_map, h4]; exact a2
  · intro z
    rcases List.mem_cons.mp z with z | z
    · rw [z] at ne; simp at ne
    · exact a3 z
/-- a state as one datum -/
def cellsD (cs : Cells) : PyData := .dict (cs.map fun c => (keyD (eI c.1), .int c.2))
def spcD (x : Spc) : PyData := .tuple [.int x.z, cellsD x.cs, fenceD x.rg x.hd]

def stateD (st : Sta) : PyData := .dict ([(("order" : Str), PyData.int st.o), ("spaces", .dict (st.sp.map fun q => (keyD (eI q.1), spcD q.2))), ("snaps", .dict (st.sn.map fun q => (topD (eP q.1), cellsD q.2))), ("marks", .dict (st.mr.map fun q => (keyD (eI q.1), markD q.2)))].map fun q => (keyD (.inr q.1), q.2))
theorem rows_flat : ∀ rs : List (Int × Int), tupOs (rs.map rowD) = true
  | [] => by simp [tupOs]
  | _ :: rs => by simp [tupOs, tupO, rowD, rows_flat rs]
theorem fence_flat {rg : List (Int × Int)} {hd : Option (Int × Str)} : tupO (fenceD rg hd) = true := by
  cases hd <;> simp [fenceD, tupO, tupOs, holdD, rows_flat]
theorem rd_cells (I : L2.Inv X pins σ H s) {c : Addr} {cs : Cells} (h : CellAt X.K H c cs) : RdV s.heap (.ref c) (cellsD cs) := by
  obtain ⟨kvs, hc, pr, _⟩ := h
  exact rd_dK I hc (Paired.imp2 (fun p q z => ⟨z.1, by rw [z.2]; exact rd_flat I (.int _) (by simp [tupO])⟩) pr)
theorem rd_space (I : L2.Inv X pins σ H s) {v : V} {x : Spc} (h : SpcAt X.K H v x) : RdV s.heap v (spcD x) := by
  obtain ⟨a, c, f, rfl, h1, h2, h3⟩ := h
  exact rd_tup I h1 (.cons (rd_flat I (.int _) (by simp [tupO])) (.cons (rd_cells I h2) (.cons (rd_flat I (fence_dp h3) fence_flat) .nil)))
theorem rd_state (I : L2.Inv X pins σ H s) {a : Addr} {st : Sta} (h : StAt X.K H a st) (fm : ∀ p ∈ st.mr, tupO p.2.an = true ∧ tupO p.2.td = true) : RdV s.heap (.ref a) (stateD st) := by
  obtain ⟨b1, b2, b3, ha, ⟨k1, hb1, p1, _⟩, ⟨k2, hb2, p2, _⟩, ⟨k3, hb3, p3, _⟩⟩ := h
  refine rd_dK I ha (.cons ⟨rfl, rd_flat I (.int _) (by simp [tupO])⟩ (.cons ⟨rfl, ?_⟩ (.cons ⟨rfl, ?_⟩ (.cons ⟨rfl, ?_⟩ .nil))))
  · exact rd_dK I hb1 (Paired.imp2 (fun p q z => ⟨z.1, rd_space I z.2⟩) p1)
  · exact rd_dT I hb2 (Paired.imp2 (fun p q z => ⟨z.1, by obtain ⟨c, e, hc⟩ := z.2; rw [e]; exact rd_cells I hc⟩) p2)
  · refine rd_dK I hb3 (pairs_mem (fun p q hq z => ⟨z.1, rd_flat I z.2 ?_⟩) p3)
    have := fm q hq
    simp [markD, tupO, tupOs, this.1, this.2]
end
end Sg

set_option Elab.async false
set_option linter.all false
set_option maxRecDepth 100000
set_option maxHeartbeats 4000000
namespace Sg
open PySem PySem.Spec PyProof.Rows L2
/-! ### how long a text is at most -/
mutual
def costD : PyData → Nat
  | .none => 4
  | .bool _ => 5
  | .int i => (Str.ofString (toString i)).length
  | .str x => (reprText x).length
  | .tuple xs => 3 + costA xs
  | .list xs => (PyData.shown (.list xs)).length
  | .dict kvs => 2 + costK kvs
def costA : List PyData → Nat
  | [] => 0
  | x :: xs => costD x + 2 + costA xs
def costK : List (PyData × PyData) → Nat
  | [] => 0
  | (k, v) :: r => costD k + costD v + 4 + costK r
end
theorem join_len (ts : List Str) : (Str.join ", " ts).length ≤ piled ts := by
  by_cases h : ts = []
  · subst h; exact Nat.zero_le _
  · have := join_length_add ts h; omega
mutual
theorem shown_cost : ∀ d : PyData, (PyData.shown d).length ≤ costD d
  | .none => by simp only [PyData.shown, costD]; decide
  | .bool b => by simp only [PyData.shown, costD]; cases b <;> decide
  | .int i => by simp only [PyData.shown, costD]; exact Nat.le_refl _
  | .str x => by simp only [PyData.shown, costD]; exact Nat.le_refl _
  | .list xs => by simp only [costD]; exact Nat.le_refl _
  | .tuple xs => by
    simp only [PyData.shown, costD]
    have h := shownA_cost xs
    have j := join_len (PyData.shownAll xs)
    unfold tupleText
    rw [strLen_append, strLen_append]
    have e1 : (("(" : String) : Str).length = 1 := rfl
    have e2 : ((if (PyData.shownAll xs).length == 1 then ",)" else ")" : String) : Str).length ≤ 2 := by split <;> decide
    omega
  | .dict kvs => by
    simp only [PyData.shown, costD]
    have h := shownK_cost kvs
    have j := join_len (PyData.shownKv kvs)
    unfold dictText
    rw [strLen_append, strLen_append]
    have e1 : (("{" : String) : Str).length = 1 := rfl
    have e2 : (("}" : String) : Str).length = 1 := rfl
    omega
theorem shownA_cost : ∀ xs : List PyData, piled (PyData.shownAll xs) ≤ costA xs
  | [] => by simp [PyData.shownAll, piled, costA]
  | x :: xs => by
    have h1 := shown_cost x
    have h2 := shownA_cost xs
    simp only [PyData.shownAll, costA]
    unfold piled at h2 ⊢
    simp only [List.map_cons, List.sum_cons]
    omega
theorem shownK_cost : ∀ xs : List (PyData × PyData), piled (PyData.shownKv xs) ≤ costK xs
  | [] => by simp [PyData.shownKv, piled, costK]
  | (k, v) :: xs => by
    have h1 := shown_cost k
    have h3 := shown_cost v
    have h2 := shownK_cost xs
    simp only [PyData.shownKv, costK]
    unfold piled at h2 ⊢
    simp only [List.map_cons, List.sum_cons]
    rw [strLen_append, strLen_append]
    have e1 : ((": " : String) : Str).length = 2 := rfl
    omega
end
theorem costK_le {α : Type} {f : α → PyData × PyData} {n : Nat} : ∀ {l : List α}, (∀ x ∈ l, costD (f x).1 + costD (f x).2 + 4 ≤ n) → costK (l.map f) ≤ l.length * n
  | [], _ => by simp [costK]
  | x :: l, h => by
    have h1 := h x List.mem_cons_self
    have h2 := costK_le (l := l) fun y hy => h y (List.mem_cons_of_mem _ hy)
    rw [List.map_cons, List.length_cons, Nat.succ_mul]
    show costD (f x).1 + costD (f x).2 + 4 + costK (l.map f) ≤ _
    omega
theorem costA_le {α : Type} {f : α → PyData} {n : Nat} : ∀ {l : List α}, (∀ x ∈ l, costD (f x) + 2 ≤ n) → costA (l.map f) ≤ l.length * n
  | [], _ => by simp [costA]
  | x :: l, h => by
    have h1 := h x List.mem_cons_self
    have h2 := costA_le (l := l) fun y hy => h y (List.mem_cons_of_mem _ hy)
    rw [List.map_cons, List.length_cons, Nat.succ_mul]
    show costD (f x) + 2 + costA (l.map f) ≤ _
    omega
theorem int_cost {i : Int} (h : (i.natAbs : Int) ≤ 2000) : costD (.int i) ≤ 5 := by
  simp only [costD]
  rw [PySem.ofString_length]
  exact int_text_length_le10 (k := 4) (by decide) (by omega)
theorem int_show {i : Int} (h : (i.natAbs : Int) ≤ 2000) : PyData.showable (.int i) = true := by
  simp only [PyData.showable, decide_eq_true_eq]
  by_cases z : i.natAbs = 0
  · rw [z]; decide
  · have : i.natAbs.log2 < 11 := (Nat.log2_lt z).mpr (by omega)
    omega
end Sg

set_option Elab.async false
set_option linter.all false
set_option maxRecDepth 100000
set_option maxHeartbeats 4000000
namespace Sg
open PySem PySem.Spec PyProof.Rows L2
/-! ### the numbers of a state -/
def Bn (M i : Int) : Prop := (i.natAbs : Int) ≤ M
def HdN (M : Int) (hd : Option (Int × Str)) : Prop := ∀ h w, hd = some (h, w) → Bn M h ∧ w ∈ (["write", "alone"] : List Str)
def CsN (M : Int) (cs : Cells) : Prop := ∀ c ∈ cs, Bn M c.1 ∧ Bn M c.2
structure SpcN (M : Int) (x : Spc) : Prop where
  z : Bn M x.z
  cs : CsN M x.cs
  rg : CsN M x.rg
  hd : HdN M x.hd
structure NumS (M : Int) (st : Sta) : Prop where
  sp : ∀ p ∈ st.sp, Bn M p.1 ∧ SpcN M p.2
  sn : ∀ p ∈ st.sn, Bn M p.1.1 ∧ Bn M p.1.2 ∧ CsN M p.2
def EffN (M : Int) : Eff → Prop
  | .space n z => Bn M n ∧ Bn M z
  | .snap n m _ => Bn M n ∧ Bn M m
  | .place n p v => Bn M n ∧ Bn M p ∧ ∀ x, v = some x → Bn M x
  | .key n h k => Bn M n ∧ Bn M h ∧ ∀ x, k = some x → Bn M x
  | .hold n hd => Bn M n ∧ HdN M hd
  | _ => True
theorem hd_none {M : Int} : HdN M none := fun _ _ e => nomatch e
theorem effs_n {M o h : Int} {b : Bd} (ho : Bn M o) (hh : Bn M h) (hb : BdN M b) : ∀ e ∈ effsB o h b, EffN M e := by
  have one : ∀ {e e' : Eff}, EffN M e → e' ∈ [e] → EffN M e' := fun h m => by rw [List.mem_singleton.mp m]; exact h
  have two : ∀ {e1 e2 e' : Eff}, EffN M e1 → EffN M e2 → e' ∈ [e1, e2] → EffN M e' := fun h1 h2 m => by
    rcases List.mem_cons.mp m with rfl | m
    · exact h1
    · rw [List.mem_singleton.mp m]; exact h2
  have nn : ∀ x : Int, (none : Option Int) = some x → Bn M x := fun _ e => nomatch e
  intro e he
  cases b with
  | mark d => exact one (e := .told h d) True.intro he
  | make n z => exact one (e := .space n z) hb he
  | remove n => exact one (e := .gone n o) True.intro he
  | write n p v => exact one (e := .place n p (some v)) ⟨hb.1, hb.2.1, fun x e => by cases e; exact hb.2.2⟩ he
  | trim n p => exact one (e := .place n p none) ⟨hb.1, hb.2, nn⟩ he
  | snap n => exact one (e := .snap n o (some o)) ⟨hb, ho⟩ he
  | drop n m => exact one (e := .snap n m none) hb he
  | register n => exact one (e := .key n h (some o)) ⟨hb, hh, fun x e => by cases e; exact ho⟩ he
  | leave n g =>
    cases g with
    | false => exact one (e := .key n h none) ⟨hb, hh, nn⟩ he
    | true => exact two (e1 := .key n h none) (e2 := .hold n none) ⟨hb, hh, nn⟩ ⟨hb, hd_none⟩ he
  | reserve n w => exact one (e := .hold n (some (h, w))) ⟨hb.1, fun x y e => by cases e; exact ⟨hh, hb.2⟩⟩ he
  | release n => exact one (e := .hold n none) ⟨hb, hd_none⟩ he
  | preempt n v w =>
    cases w with
    | none => exact one (e := .key n v none) ⟨hb.1, hb.2.1, nn⟩ he
    | some w => exact two (e1 := .key n v none) (e2 := .hold n (some (h, w))) ⟨hb.1, hb.2.1, nn⟩ ⟨hb.1, fun x y e => by cases e; exact ⟨hh, hb.2.2 w rfl⟩⟩ he
theorem CsN.set {M : Int} {cs : Cells} {k : Int} {v : Option Int} (h : CsN M cs) (hk : Bn M k) (hv : ∀ x, v = some x → Bn M x) : CsN M (setI cs k v) := fun c hc => by
  rcases mem_set' hc with hc | ⟨w, e, rfl⟩
  · exact h c hc
  · exact ⟨hk, hv w e⟩
theorem CsN.out {M : Int} {cs : Cells} {h : Int} (a : CsN M cs) : CsN M (outR cs h) := fun c hc => a c (List.mem_filter.mp hc).1
theorem CsN.ins {M : Int} {cs : Cells} {h k : Int} (a : CsN M cs) (hh : Bn M h) (hk : Bn M k) : CsN M (insR cs h k) := fun c hc => by
  rcases List.mem_append.mp (ins_perm.mem_iff.mp hc) with hc | hc
  · exact a.out c hc
  · rw [List.mem_singleton.mp hc]; exact ⟨hh, hk⟩
theorem NumS.put {M : Int} {st : Sta} {n : Int} {s : Spc} (h : NumS M st) (hn : Bn M n) (hs : SpcN M s) : NumS M { st with sp := putI st.sp n s } := ⟨fun p hp => by
  rcases mem_put hp with hp | rfl
  · exact h.sp p hp
  · exact ⟨hn, hs⟩, h.sn⟩
theorem NumS.within {M : Int} {st : Sta} {e : Eff} {k : Int} {s : Spc} (h : NumS M st) (he : EffN M e) (hs : (k, s) ∈ st.sp) : NumS M (within s e st) := by
  have a : SpcN M s := (h.sp _ hs).2
  cases e with
  | gone n o => exact ⟨fun p hp => h.sp p (mem_del hp), fun p hp => h.sn p (List.mem_filter.mp hp).1⟩
  | snap n m b =>
    refine ⟨h.sp, fun p hp => ?_⟩
    rcases mem_set' hp with hp | ⟨w, e, rfl⟩
    · exact h.sn p hp
    · cases b with
      | none => cases e
      | some b => cases e; exact ⟨he.1, he.2, a.cs⟩
  | place n p v => exact h.put he.1 ⟨a.z, a.cs.set he.2.1 he.2.2, a.rg, a.hd⟩
  | key n x k =>
    cases k with
    | none => exact h.put he.1 ⟨a.z, a.cs, a.rg.out, a.hd⟩
    | some k => exact h.put he.1 ⟨a.z, a.cs, a.rg.ins he.2.1 (he.2.2 k rfl), a.hd⟩
  | hold n hd => exact h.put he.1 ⟨a.z, a.cs, a.rg, he.2⟩
  | host _ _ _ _ => exact h
  | told _ _ => exact h
  | space _ _ => exact h
theorem NumS.after {M : Int} {st : Sta} {e : Eff} (h : NumS M st) (he : EffN M e) : NumS M (afterE e st) := by
  have inn : ∀ m, spaceOf e = some m → NumS M (afterE e st) := fun m hm => by
    rw [after_in hm]
    cases hl : lookI st.sp m with
    | none => exact h
    | some s => exact h.within he (look_mem hl)
  cases e with
  | host hh s c an => exact ⟨h.sp, h.sn⟩
  | told hh d =>
    cases hl : lookI st.mr hh with
    | none => simp only [afterE, hl]; exact h
    | some m => rw [after_told hl]; exact ⟨h.sp, h.sn⟩
  | space m z => exact h.put he.1 ⟨he.2, (fun _ h => nomatch h), (fun _ h => nomatch h), hd_none⟩
  | gone m o => exact inn m rfl
  | snap m _ _ => exact inn m rfl
  | place m _ _ => exact inn m rfl
  | key m _ _ => exact inn m rfl
  | hold m _ => exact inn m rfl
theorem NumS.afters {M : Int} : ∀ {es : List Eff} {st : Sta}, NumS M st → (∀ e ∈ es, EffN M e) → NumS M (es.foldl (fun s e => afterE e s) st)
  | [], _, h, _ => h
  | e :: es, _, h, he => NumS.afters (es := es) (h.after (he e List.mem_cons_self)) fun x hx => he x (List.mem_cons_of_mem _ hx)
theorem NumS.record {M : Int} {st : Sta} {r : Rc} (h : NumS M st) (ho : Bn M r.o) (hh : Bn M r.h) (hb : BdN M r.b) : NumS M (afterR st r) :=
  NumS.afters (es := effsR r) (st := { st with o := r.o }) ⟨h.sp, h.sn⟩ fun e he => by
    rcases List.mem_cons.mp he with rfl | he
    · exact True.intro
    · exact effs_n ho hh hb e he
/-! ### the marks of a state -/
def TxtD (n : Nat) (d : PyData) : Prop := tupO d = true ∧ d.showable = true ∧ costD d ≤ n
structure MrkN (M : Int) (m : Mrk) : Prop where
  s : Bn M m.s
  c : Bn M m.c
  an : TxtD 20 m.an
  td : TxtD 45 m.td
def MrkNs (M : Int) (st : Sta) : Prop := ∀ p ∈ st.mr, Bn 1000 p.1 ∧ MrkN M p.2
theorem txt_none {n : Nat} (h : 4 ≤ n) : TxtD n .none := ⟨by simp [tupO], by simp [PyData.showable], by simpa [costD] using h⟩
theorem answ_txt {k : Str} {o : Int} (h : Bn 2000 o) : TxtD 20 (answD k o) := by
  have e : costD (.str ("ok" : Str)) = 4 := by simp only [costD]; decide +kernel
  have a := int_cost h
  unfold answD
  split
  · exact txt_none (by decide)
  · split
    · refine ⟨by simp [tupO, tupOs], by simp [PyData.showable, PyData.showableAll]; simpa [PyData.showable] using int_show h, ?_⟩
      show 3 + (costD (.str ("ok" : Str)) + 2 + (costD (.int o) + 2 + 0)) ≤ 20
      omega
    · refine ⟨by simp [tupO, tupOs], by simp [PyData.showable, PyData.showableAll], ?_⟩
      show 3 + (costD (.str ("ok" : Str)) + 2 + (4 + 2 + 0)) ≤ 20
      omega
theorem toldOf_txt {st : Sta} {h M : Int} (g : MrkNs M st) : TxtD 45 (toldOf st h) := by
  unfold toldOf
  cases e : lookI st.mr h with
  | none => exact txt_none (by decide)
  | some m => exact (g _ (look_mem e)).2.td
theorem told4_txt {st : Sta} {h M : Int} (hM : M ≤ 2000) (g : MrkNs M st) : TxtD 45 (told4 st h) := by
  unfold told4
  cases e : lookI st.mr h with
  | none => exact txt_none (by decide)
  | some m =>
    have gm : MrkN M m := (g _ (look_mem e)).2
    by_cases c : m.c = 0
    · simp only [if_pos c]; exact gm.td
    · simp only [if_neg c]
      have b1 : Bn 2000 m.s := Int.le_trans gm.s hM
      have b2 : Bn 2000 m.c := Int.le_trans gm.c hM
      refine ⟨by simp [tupO, tupOs, gm.an.1], ?_, ?_⟩
      · have h1 := int_show b1
        have h2 := int_show b2
        simp only [PyData.showable, PyData.showableAll, gm.an.2.1, Bool.and_true]
        simp only [PyData.showable] at h1 h2
        rw [h1, h2]; rfl
      · show 3 + (costD (.int m.s) + 2 + (costD (.int m.c) + 2 + (costD m.an + 2 + 0))) ≤ 45
        have := int_cost b1; have := int_cost b2; have := gm.an.2.2
        omega
theorem MrkNs.record {st : Sta} {r : Rc} {M N : Int} (g : MrkNs M st) (hM : M ≤ N) (hN : N ≤ 2000) (hh : Bn 1000 r.h) (hs : Bn N r.s) (hc : Bn N r.c) (ho : Bn 1000 r.o) (hm : ∀ d, r.b = .mark d → d = told4 st r.h) : MrkNs N (afterR st r) := by
  rw [law_eq]
  intro p hp
  rcases mem_put hp with hp | rfl
  · have a := g p hp
    exact ⟨a.1, Int.le_trans a.2.s hM, Int.le_trans a.2.c hM, a.2.an, a.2.td⟩
  · refine ⟨hh, hs, hc, answ_txt (Int.le_trans ho (by decide)), ?_⟩
    show TxtD 45 (toldL st r)
    unfold toldL
    split
    · rename_i d e
      rw [hm d e]; exact told4_txt (Int.le_trans hM hN) g
    · exact toldOf_txt g
/-! ### a state's text is short -/
structure ShowS (st : Sta) : Prop where
  fl : ∀ p ∈ st.mr, tupO p.2.an = true ∧ tupO p.2.td = true
  sh : (stateD st).showable = true
  sz : (stateD st).shown.length ≤ sizeLine
  dp : (stateD st).depth ≤ 60
theorem showK_of : ∀ {α : Type} {f : α → PyData × PyData} {l : List α}, (∀ x ∈ l, (f x).1.showable = true ∧ (f x).2.showable = true) → PyData.showableKv (l.map f) = true
  | _, _, [], _ => by simp [PyData.showableKv]
  | _, f, x :: l, h => by
    have h1 := h x List.mem_cons_self
    have h2 := showK_of (l := l) fun y hy => h y (List.mem_cons_of_mem _ hy)
    rw [List.map_cons]
    rcases e : f x with ⟨a, b⟩
    rw [e] at h1
    simp [PyData.showableKv, h1.1, h1.2, h2]
theorem showA_of : ∀ {α : Type} {f : α → PyData} {l : List α}, (∀ x ∈ l, (f x).showable = true) → PyData.showableAll (l.map f) = true
  | _, _, [], _ => by simp [PyData.showableAll]
  | _, f, x :: l, h => by
    rw [List.map_cons]
    simp [PyData.showableAll, h x List.mem_cons_self, showA_of (l := l) fun y hy => h y (List.mem_cons_of_mem _ hy)]
theorem depthK_of : ∀ {α : Type} {f : α → PyData × PyData} {l : List α} {n : Nat}, (∀ x ∈ l, (f x).1.depth ≤ n ∧ (f x).2.depth ≤ n) → PyData.depthKv (l.map f) ≤ n
  | _, _, [], _, _ => by simp [PyData.depthKv]
  | _, f, x :: l, n, h => by
    have h1 := h x List.mem_cons_self
    have h2 := depthK_of (l := l) fun y hy => h y (List.mem_cons_of_mem _ hy)
    rw [List.map_cons]
    rcases e : f x with ⟨a, b⟩
    rw [e] at h1
    simp only [PyData.depthKv]
    simp only at h1
    omega
theorem cells_cost {cs : Cells} {n : Nat} (h : CsN 1000 cs) (hl : cs.length ≤ n) : costD (cellsD cs) ≤ 2 + n * 14 := by
  show 2 + costK _ ≤ _
  have := costK_le (f := fun c : Int × Int => (keyD (eI c.1), PyData.int c.2)) (n := 14) (l := cs) fun c hc => by
    have a := int_cost (i := c.1) (Int.le_trans (h c hc).1 (by decide))
    have b := int_cost (i := c.2) (Int.le_trans (h c hc).2 (by decide))
    show costD (.int c.1) + costD (.int c.2) + 4 ≤ 14
    omega
  have := Nat.mul_le_mul_right 14 hl
  omega
theorem cells_show {cs : Cells} (h : CsN 1000 cs) : (cellsD cs).showable = true := by
  show PyData.showable (.dict _) = true
  simp only [PyData.showable]
  exact showK_of fun c hc => ⟨int_show (Int.le_trans (h c hc).1 (by decide)), int_show (Int.le_trans (h c hc).2 (by decide))⟩
theorem cells_depth {cs : Cells} : (cellsD cs).depth ≤ 1 := by
  show PyData.depth (.dict _) ≤ 1
  simp only [PyData.depth]
  have := depthK_of (f := fun c : Int × Int => (keyD (eI c.1), PyData.int c.2)) (l := cs) (n := 0) fun c _ => ⟨by simp [keyD, PyData.depth], by simp [PyData.depth]⟩
  omega
theorem way_txt {w : Str} (h : w ∈ (["write", "alone"] : List Str)) : costD (.str w) ≤ 10 := by
  have e : ∀ x ∈ (["write", "alone"] : List Str), costD (.str x) ≤ 10 := by
    intro x hx
    simp only [costD]
    have : ∀ x ∈ (["write", "alone"] : List Str), (reprText x).length ≤ 10 := by decide +kernel
    exact this x hx
  exact e w h
theorem fence_cost {rg : List (Int × Int)} {hd : Option (Int × Str)} {n : Nat} (h : CsN 1000 rg) (hh : HdN 1000 hd) (hl : rg.length ≤ n) : costD (fenceD rg hd) ≤ 40 + n * 19 := by
  have a := costA_le (f := rowD) (n := 19) (l := rg) fun c hc => by
    have a := int_cost (i := c.1) (Int.le_trans (h c hc).1 (by decide))
    have b := int_cost (i := c.2) (Int.le_trans (h c hc).2 (by decide))
    show 3 + (costD (.int c.1) + 2 + (costD (.int c.2) + 2 + 0)) + 2 ≤ 19
    omega
  have a2 := Nat.mul_le_mul_right 19 hl
  have b : costD (holdD hd) ≤ 22 := by
    cases hd with
    | none => show 4 ≤ 22; decide
    | some x =>
      obtain ⟨i, w⟩ := x
      have z := hh i w rfl
      have c := int_cost (i := i) (Int.le_trans z.1 (by decide))
      have d := way_txt z.2
      show 3 + (costD (.int i) + 2 + (costD (.str w) + 2 + 0)) ≤ 22
      omega
  show 3 + (3 + costA (rg.map rowD) + 2 + (costD (holdD hd) + 2 + 0)) ≤ _
  omega
theorem fence_show {rg : List (Int × Int)} {hd : Option (Int × Str)} (h : CsN 1000 rg) (hh : HdN 1000 hd) : (fenceD rg hd).showable = true := by
  have a := showA_of (f := rowD) (l := rg) fun c hc => by
    have a := int_show (i := c.1) (Int.le_trans (h c hc).1 (by decide))
    have b := int_show (i := c.2) (Int.le_trans (h c hc).2 (by decide))
    simp only [PyData.showable] at a b
    simp only [rowD, PyData.showable, PyData.showableAll, a, b]; rfl
  have b : (holdD hd).showable = true := by
    cases hd with
    | none => simp [holdD, PyData.showable]
    | some x =>
      obtain ⟨i, w⟩ := x
      have b := int_show (i := i) (Int.le_trans (hh i w rfl).1 (by decide))
      simp only [PyData.showable] at b
      simp only [holdD, PyData.showable, PyData.showableAll, b]; rfl
  simp only [fenceD, PyData.showable, PyData.showableAll, a, b]; rfl
theorem fence_depth {rg : List (Int × Int)} {hd : Option (Int × Str)} : (fenceD rg hd).depth ≤ 3 := by
  have a := (rows_lay rg).2
  cases hd with
  | none => simp only [fenceD, holdD, PyData.depth, PyData.depthAll]; omega
  | some x => simp only [fenceD, holdD, PyData.depth, PyData.depthAll]; omega
theorem space_txt {x : Spc} {n : Nat} (h : SpcN 1000 x) (h1 : x.cs.length ≤ n) (h2 : x.rg.length ≤ n) : costD (spcD x) ≤ 60 + n * 33 ∧ (spcD x).showable = true ∧ (spcD x).depth ≤ 4 := by
  have a := int_cost (i := x.z) (Int.le_trans h.z (by decide))
  have b := cells_cost h.cs h1
  have c := fence_cost h.rg h.hd h2
  refine ⟨?_, ?_, ?_⟩
  · show 3 + (costD (.int x.z) + 2 + (costD (cellsD x.cs) + 2 + (costD (fenceD x.rg x.hd) + 2 + 0))) ≤ _
    omega
  · have d := int_show (i := x.z) (Int.le_trans h.z (by decide))
    simp only [PyData.showable] at d
    simp only [spcD, PyData.showable, PyData.showableAll, d, cells_show h.cs, fence_show h.rg h.hd]; rfl
  · have d := cells_depth (cs := x.cs)
    have e := fence_depth (rg := x.rg) (hd := x.hd)
    simp only [spcD, PyData.depth, PyData.depthAll]; omega
theorem mark_txt {m : Mrk} {M : Int} (hM : M ≤ 2000) (h : MrkN M m) (g : MrkG m) : costD (markD m) ≤ 90 ∧ (markD m).showable = true ∧ (markD m).depth ≤ 4 := by
  have b1 : Bn 2000 m.s := Int.le_trans h.s hM
  have b2 : Bn 2000 m.c := Int.le_trans h.c hM
  refine ⟨?_, ?_, ?_⟩
  · have := int_cost b1; have := int_cost b2; have := h.an.2.2; have := h.td.2.2
    show 3 + (costD (.int m.s) + 2 + (costD (.int m.c) + 2 + (costD m.an + 2 + (costD m.td + 2 + 0)))) ≤ _
    omega
  · have h1 := int_show b1
    have h2 := int_show b2
    simp only [PyData.showable] at h1 h2
    simp only [markD, PyData.showable, PyData.showableAll, h1, h2, h.an.2.1, h.td.2.1]; rfl
  · have := g.ad; have := g.td
    simp only [markD, PyData.depth, PyData.depthAll]; omega
theorem str_le {x : Str} {n : Nat} (h : (reprText x).length ≤ n) : costD (.str x) ≤ n := by simp only [costD]; exact h
/-- a state of bounded numbers and sizes has a short text -/
theorem show_of {st : Sta} {n : Nat} {M : Int} (hn : n ≤ 200) (hM : M ≤ 2000) (ho : Bn 1000 st.o) (G : StG n st) (N : NumS 1000 st) (mn : MrkNs M st) (mg : MrkS st) : ShowS st := by
  have c1 : costK (st.sp.map fun q => (keyD (eI q.1), spcD q.2)) ≤ st.sp.length * 7000 := costK_le fun q hq => by
    have a := int_cost (i := q.1) (Int.le_trans (N.sp q hq).1 (by decide))
    have b := (space_txt (N.sp q hq).2 (G.sm.cs q hq) (G.rg q hq).2).1
    show costD (.int q.1) + costD (spcD q.2) + 4 ≤ 7000
    omega
  have c2 : costK (st.sn.map fun q => (topD (eP q.1), cellsD q.2)) ≤ st.sn.length * 3000 := costK_le fun q hq => by
    have a := int_cost (i := q.1.1) (Int.le_trans (N.sn q hq).1 (by decide))
    have a' := int_cost (i := q.1.2) (Int.le_trans (N.sn q hq).2.1 (by decide))
    have b := cells_cost (N.sn q hq).2.2 (G.sm.cn q hq)
    show 3 + (costD (.int q.1.1) + 2 + (costD (.int q.1.2) + 2 + 0)) + costD (cellsD q.2) + 4 ≤ 3000
    omega
  have c3 : costK (st.mr.map fun q => (keyD (eI q.1), markD q.2)) ≤ st.mr.length * 100 := costK_le fun q hq => by
    have a := int_cost (i := q.1) (Int.le_trans (mn q hq).1 (by decide))
    have b := (mark_txt hM (mn q hq).2 (mg q hq)).1
    show costD (.int q.1) + costD (markD q.2) + 4 ≤ 100
    omega
  refine ⟨fun p hp => ⟨(mn p hp).2.an.1, (mn p hp).2.td.1⟩, ?_, ?_, ?_⟩
  · have s1 : PyData.showableKv (st.sp.map fun q => (PyData.int q.1, spcD q.2)) = true := showK_of fun q hq => ⟨int_show (Int.le_trans (N.sp q hq).1 (by decide)), (space_txt (N.sp q hq).2 (G.sm.cs q hq) (G.rg q hq).2).2.1⟩
    have s2 : PyData.showableKv (st.sn.map fun q => (topD (eP q.1), cellsD q.2)) = true := showK_of fun q hq => ⟨by
      have a := int_show (i := q.1.1) (Int.le_trans (N.sn q hq).1 (by decide))
      have b := int_show (i := q.1.2) (Int.le_trans (N.sn q hq).2.1 (by decide))
      simp only [PyData.showable] at a b
      simp only [topD, eP, List.map_cons, List.map_nil, keyD, PyData.showable, PyData.showableAll, a, b]; rfl, cells_show (N.sn q hq).2.2⟩
    have s3 : PyData.showableKv (st.mr.map fun q => (PyData.int q.1, markD q.2)) = true := showK_of fun q hq => ⟨int_show (Int.le_trans (mn q hq).1 (by decide)), (mark_txt hM (mn q hq).2 (mg q hq)).2.1⟩
    have s0 := int_show (i := st.o) (Int.le_trans ho (by decide))
    simp only [PyData.showable] at s0
    simp only [stateD, List.map_cons, List.map_nil, keyD, PyData.showable, PyData.showableKv, s0, s1, s2, s3]; rfl
  · refine Nat.le_trans (shown_cost _) ?_
    have z0 := int_cost (i := st.o) (Int.le_trans ho (by decide))
    have k1 : costD (.str ("order" : Str)) ≤ 20 := str_le (by decide +kernel)
    have k2 : costD (.str ("spaces" : Str)) ≤ 20 := str_le (by decide +kernel)
    have k3 : costD (.str ("snaps" : Str)) ≤ 20 := str_le (by decide +kernel)
    have k4 : costD (.str ("marks" : Str)) ≤ 20 := str_le (by decide +kernel)
    have l1 := Nat.mul_le_mul_right 7000 (Nat.le_trans G.sm.sp hn)
    have l2 := Nat.mul_le_mul_right 3000 (Nat.le_trans G.sm.sn hn)
    have l3 := Nat.mul_le_mul_right 100 (Nat.le_trans G.sm.mr hn)
    show 2 + (costD (.str ("order" : Str)) + costD (.int st.o) + 4 + (costD (.str ("spaces" : Str)) + (2 + costK (st.sp.map fun q => (keyD (eI q.1), spcD q.2))) + 4 + (costD (.str ("snaps" : Str)) + (2 + costK (st.sn.map fun q => (topD (eP q.1), cellsD q.2))) + 4 + (costD (.str ("marks" : Str)) + (2 + costK (st.mr.map fun q => (keyD (eI q.1), markD q.2))) + 4 + 0)))) ≤ 2 ^ 24
    omega
  · have d1 : PyData.depthKv (st.sp.map fun q => (PyData.int q.1, spcD q.2)) ≤ 4 := depthK_of fun q hq => ⟨by simp [keyD, PyData.depth], (space_txt (N.sp q hq).2 (G.sm.cs q hq) (G.rg q hq).2).2.2⟩
    have d2 : PyData.depthKv (st.sn.map fun q => (topD (eP q.1), cellsD q.2)) ≤ 1 := depthK_of fun q hq => ⟨by simp [topD, eP, keyD, PyData.depth, PyData.depthAll], cells_depth⟩
    have d3 : PyData.depthKv (st.mr.map fun q => (PyData.int q.1, markD q.2)) ≤ 4 := depthK_of fun q hq => ⟨by simp [keyD, PyData.depth], (mark_txt hM (mn q hq).2 (mg q hq)).2.2⟩
    simp only [stateD, List.map_cons, List.map_nil, keyD, PyData.depth, PyData.depthKv]
    omega
/-! ### repr(state) -/
def rRepr (K : PySem.W.Frag) : List V → Hp → VK → Prop := fun vs H Q => ∃ (a : Addr) (st : Sta), vs = [.ref a] ∧ StAt K H a st ∧ ShowS st ∧ Q (.str (stateD st).shown) H
theorem cr_repr {X : Cx} (hg : X.A.guards = some []) (hu : X.A.units + 64 < cLine) : CallR X (.builtin "repr") (rRepr X.K) := by
  intro pins s σ H xs us Q I r h
  obtain ⟨a, st, rfl, hs, sh, q⟩ := h
  obtain ⟨u, rfl, ru⟩ := vals1 r
  obtain ⟨as, h1, h2⟩ := rd_state I hs sh.fl u ru
  obtain rfl : u = Value.ref a := ru
  have hd := sh.dp
  exact repr_of_reads' h1 sh.sh (fun _ => h2) hg (by omega) (fun _ _ e => e) (fun h' v tk hk => ⟨.str _, H, I.kept hk, ⟨_, rfl⟩, q⟩) sh.sz
end Sg

set_option Elab.async false
set_option linter.all false
set_option maxRecDepth 100000
set_option maxHeartbeats 4000000
namespace Sg
open PySem PySem.Spec PyProof.Rows L2
/-! ### the step that the law draws -/
section
variable {K : PySem.W.Frag} {κ : Type} [DecidableEq κ]
/-- [x for x in d if ..]: the keys that are left -/
theorem keepK_te (T : TKd K κ) {σ : L2.St} {H : Hp} {Q : VK} {td : TE} {jx : Nat} {d : Addr} {kvs : List (κ × V)} {tt : TT} (f : κ → Bool) (hjx : jx < σ.length)
    (ht : ∀ (H1 : Hp) (R : VK), (∀ b o, b ≠ d → H b = some o → H1 b = some o) → R (.ref d) H1 → td σ H1 R)
    (hd : H d = some (T.ho kvs)) (hl : kvs.length ≤ 1000)
    (he : ∀ x k H' (Q' : Bool → Hp → Prop), k ∈ kvs.map (·.1) → T.at' H' x k → TK H H' → Q' (f k) H' → tt ((σ.set jx none).set jx (some x)) H' Q')
    (q : ∀ D xs H', Same H H' → H' D = some (.lst xs) → Paired (fun x (kv : κ × V) => T.at' H' x kv.1) xs (kvs.filter fun p => f p.1) → Q (.ref D) H') :
    tLockE (tLc (iKeys td) (gName jx) tt (tVar jx) [jx]) σ H Q := by
  refine ⟨d, T.ho kvs, hd, T.mt _, fun od => ?_⟩
  have tk1 : TK H (upd H d (.frz od (T.ho kvs))) := tk_upd hd (T.nt kvs).1 (T.nt kvs).2
  have hd1 : (upd H d (.frz od (T.ho kvs))) d = some (.frz od (T.ho kvs)) := upd_same
  have lk := fun H' (s : Same (upd H d (.frz od (T.ho kvs))) H') => lock_same hd rfl s
  have ne : ∀ b o, b ≠ d → H b = some o → (upd H d (.frz od (T.ho kvs))) b = some o := fun b o n e => by rw [upd_ne n]; exact e
  generalize upd H d (.frz od (T.ho kvs)) = H1 at tk1 hd1 lk ne
  refine ht H1 _ ne ⟨d, od, rfl, T.walk (R := fun J G => ∀ D, G D = none → ∃ W : Nat → Nat → Hp → Prop, (∃ m, W 0 m (upd G D (.lst []))) ∧ ∀ i m H, W i m H →
      (J.stop i H ∧ H d = some (.frz od (T.ho kvs)) ∧ Q (.ref D) (upd H d (T.ho kvs))) ∨ (J.go i H ∧ ∃ Nx : Hp → Prop, (∀ H', Nx H' → ∃ m', m' < m ∧ W (i + 1) m' H') ∧ ∀ x H', J.yld i H x H' → gName jx x (wipe σ [jx]) H' fun σ2 H2 => wipe σ2 [jx] = wipe σ [jx] ∧ tt σ2 H2 fun b H3 =>
        if b = true then tVar jx σ2 H3 fun y H4 => ∃ acc, H4 D = some (.lst acc) ∧ acc.length < sizeLine ∧ Nx (upd H4 D (.lst (acc ++ [y]))) else Nx H3)) hd1 fun J w D hD => ?_⟩
  refine lc_it w (fun i H' => Same H1 H' ∧ ∃ xs, H' D = some (.lst xs) ∧ Paired (fun x (kv : κ × V) => T.at' H' x kv.1) xs ((kvs.take i).filter fun p => f p.1)) ⟨same_new hD, [], upd_same, .nil⟩ (fun i H' _ p => p.1 _ _ hd1) ?_ ?_
  · rintro i x H' H'' hi ⟨sm, xs, hDi, pr⟩ ⟨rfl, k, v, hki, hat⟩
    have g1 : ((wipe σ [jx]).set jx (some x))[jx]? = some (some x) := by
      rw [List.getElem?_set_self (by rw [wipe_length]; exact hjx)]
    refine ⟨?_, ?_⟩
    · show ((σ.set jx none).set jx (some x)).set jx none = σ.set jx none
      rw [List.set_set, List.set_set]
    · refine he x k H'' _ (List.mem_map.mpr ⟨_, List.mem_of_getElem? hki, rfl⟩) hat (tk1.trans (TK.of sm)) ?_
      have tks : (kvs.take (i + 1)).filter (fun p => f p.1) = (kvs.take i).filter (fun p => f p.1) ++ (if f k = true then [(k, v)] else []) := by
        rw [List.take_add_one, hki, List.filter_append]
        by_cases c : f k = true <;> simp [c]
      by_cases c : f k = true
      · refine chooseT' c ?_
        have pl := Paired.length pr
        have fl : ((kvs.take i).filter fun p => f p.1).length ≤ (kvs.take i).length := List.length_filter_le _ _
        have lt : (kvs.take i).length ≤ 1000 := by rw [List.length_take]; omega
        refine ⟨_, g1, xs, hDi, small1000 (by omega), fun b o e => ?_, xs ++ [x], upd_same, ?_⟩
        · have : b ≠ D := fun z => by rw [z, hD] at e; cases e
          rw [upd_ne this]; exact sm _ _ e
        · have t3 : TK H'' (upd H'' D (.lst (xs ++ [x]))) := tk_upd hDi (fun _ z => nomatch z) (fun _ _ z => nomatch z)
          rw [tks, if_pos c]
          generalize upd H'' D (.lst (xs ++ [x])) = H5 at t3
          exact pr_snoc (R := fun x (kv : κ × V) => T.at' H5 x kv.1) (T.tk t3 hat) (Paired.imp2 (fun (x : V) (kv : κ × V) (z : T.at' H'' x kv.1) => T.tk t3 z) pr)
      · refine chooseF' (by simpa using c) ⟨sm, xs, hDi, ?_⟩
        rw [tks, if_neg c, List.append_nil]; exact pr
  · rintro H' ⟨sm, xs, hDn, pr⟩
    have hdn := sm _ _ hd1
    have nDd : D ≠ d := fun z => by rw [z, hd1] at hD; cases hD
    refine ⟨hdn, q D xs _ (lk _ sm) (by rw [upd_ne nDd]; exact hDn) ?_⟩
    rw [List.take_length] at pr
    exact Paired.imp2 (fun (x : V) (kv : κ × V) (z : T.at' H' x kv.1) => T.tk (tk_unlock hdn (T.nt kvs).1) z) pr
end
theorem chooseB {b : Bool} {A B : Prop} (h1 : b = true → A) (h2 : b = false → B) : if b = true then A else B := by
  cases b with
  | true => exact iteT (h1 rfl)
  | false => exact chooseF rfl (h2 rfl)
def cutT (t : TT) : TT := fun σ H Q => ∃ C : Bool → Hp → Prop, t σ H C ∧ ∀ b H', C b H' → Q b H'
theorem ptcut {X : Cx} {e : Expr} {t : TT} (h : PT X e t) : PT X e (cutT t) :=
  ⟨fun pins s σ H Q I ⟨C, hC, k⟩ => thn (h.run pins s σ H C I hC) fun b s1 q => by
    obtain ⟨H', I', c⟩ := q
    exact ⟨H', I', k _ _ c⟩⟩
/-- all but one object stays -/
def Kp (F : Addr) (H H' : Hp) : Prop := ∀ b o, b ≠ F → H b = some o → H' b = some o
theorem Kp.trans {F : Addr} {H H' H'' : Hp} (a : Kp F H H') (b : Kp F H' H'') : Kp F H H'' := fun x o n e => b x o n (a x o n e)
theorem Kp.of {F : Addr} {H H' : Hp} (s : Same H H') : Kp F H H' := fun x o _ e => s x o e
theorem put_f {σ : L2.St} {H : Hp} {D : Ends} {r : TS} {F : Addr} {kvs kvs' : List (Key × V)} {k : Str} {ta : TA} {ys : List V} (hσ : σ[14]? = some (some (.ref F))) (ha : ∀ R : List V → Hp → Prop, R ys H → ta σ H R) (hl : ys.length ≤ 3) (hF : H F = some (.dK kvs)) (kl : kvs.length ≤ 20)
    (ek : ∀ v, putK kvs (.inr k) v = kvs' ++ [(.inr k, v)]) (q : ∀ p H', Kp F H H' → H' F = some (.dK (kvs' ++ [(.inr k, .ref p)])) → H' p = some (.tup ys) → p ≠ F → r D σ H') : tSeq (sDPut (tVar 14) (tC (.str k)) (tTup ta)) r D σ H := by
  refine ha _ ⟨Nat.le_of_lt (small1000 (by omega)), fun p hp => ⟨_, hσ, F, _, rfl, DPut.k (k := .inr k) ((same_new hp) _ _ hF) (Nat.lt_of_le_of_lt kl (by decide)), ?_⟩⟩
  have nF : p ≠ F := fun e => by rw [e, hF] at hp; cases hp
  have s1 := same_new (o := .tup ys) hp
  have e1 : (upd H p (.tup ys)) p = some (.tup ys) := upd_same
  generalize upd H p (.tup ys) = H1 at s1 e1
  refine q p _ (fun b o n e => by rw [upd_ne n]; exact s1 _ _ e) (by rw [ek]; exact upd_same) (by rw [upd_ne nF]; exact e1) nF
def wayV : Option Str → V
  | none => .non
  | some w => .str w
theorem way_dp {K : PySem.W.Frag} {H : Hp} {w : Option Str} : Dp K H (wayV w) (wayD w) := by
  cases w with
  | none => exact .non
  | some w => exact .str w
theorem list_nil {l : List PyData} : PyData.eqv (.list l) (.list []) = l.isEmpty := by
  cases l with
  | nil => simp [PyData.eqv, PyData.eqvAll]
  | cons => simp [PyData.eqv, PyData.eqvAll]
theorem pairs_dp {K : PySem.W.Frag} {H : Hp} : ∀ {ys : List V}, (∀ y ∈ ys, PairV H y) → DpAll K H ys (ys.map fun y => rowD (kOf H y))
  | [], _ => .nil
  | y :: ys, h => by
    obtain ⟨t, e, ht⟩ := h y List.mem_cons_self
    refine .cons ?_ (pairs_dp fun z hz => h z (List.mem_cons_of_mem _ hz))
    have e' : y = .ref t := e
    rw [e'] at ht ⊢
    exact .tup (SqT.of ht) (.cons (.int _) (.cons (.int _) .nil))
def KS18 : List Str := ["write", "write", "write", "write", "write", "trim", "trim", "make", "make", "snap", "drop", "remove", "register", "reserve", "release", "leave", "preempt", "mark"]
abbrev K12 : List V := [V.str "write", V.str "write", V.str "write", V.str "write", V.str "write", V.str "trim", V.str "trim", V.str "make", V.str "make", V.str "snap", V.str "drop", V.str "remove"]
abbrev K6 : List V := [V.str "register", V.str "reserve", V.str "release", V.str "leave", V.str "preempt", V.str "mark"]
def KS9 : List Str := ["write", "trim", "make", "snap", "remove", "register", "release", "leave", "mark"]
theorem ks_in : ∀ k ∈ KS18, k ≠ "reserve" → k ≠ "preempt" → k ≠ "drop" → k ∈ KS9 := by decide +kernel
def spLStep (K : PySem.W.Frag) : Sp := fun vs H Q _ => ∃ (c : Int) (w : Addr) (st : Sta) (m : Int), vs = [.int c, .ref w, .int m] ∧ StAt K H w st ∧ StG 900 st ∧ NumS 1000 st ∧ (∀ h, tupO (told4 st h) = true) ∧ 0 < m ∧ m ≤ 100 ∧ ∀ v H', Same H H' → IsStep K st 1000 H' v → Q v H'
def slotsL (c : Int) (w l kl : Addr) (m : Int) (k : Str) (d4 n pl : Int) (xs : List (Option V)) : L2.St := [some (.int c), some (.ref w), some (.int m), some (.ref l), some (.ref kl), some (.str k), some (.int d4), some (.int n), some (.int pl)] ++ xs
section
variable {P : Program} {wd : World} {K : PySem.W.Frag} {mg : Str → Option Value} {base : Heap} {f fD fN fS fT : Addr} {fd fdD fdN fdS fdT : FuncData}
theorem scLStep : FnScope ["cell", "world", "many", "digits", "kinds", "kind", "host", "namespace", "place", "fence", "hosts", "way", "snaps", "held", "fields", "row", "name"] ["cell", "world", "many"] (defScope sLStep) := ⟨rfl, rfl, rfl, by decide +kernel, rfl, by decide +kernel, by decide +kernel⟩
theorem ok_lstep (F : Fun K "_law_step" "_law_step" sLStep f fd) (B : BK mg) (GD : Def P wd K mg base CX0 "_law_digits" 1 ["cell","bases"] (spDig K) fD fdD) (GN : Def P wd K mg base CX0 "_law_named" 1 ["world","kind","host","fields"] (spLNamed K) fN fdN)
    (GS : Def P wd K mg base CX0 "_law_sure" 1 ["kind","world","host","namespace","place"] (spLSure K) fS fdS) (GT : Def P wd K mg base CX0 "_law_told" 1 ["world","host"] (spLTold K) fT fdT) : FnOk P wd K mg base CX0 2 f fd ["cell","world","many"] (spLStep K) := by
  refine F.ok scLStep (fun vs H Q E h => ?_) (fun cdv A outer s H vs Q E hr h => ?_)
  · obtain ⟨c, w, st, m, rfl, _⟩ := h
    rfl
  · obtain ⟨c, w, st, m, rfl, SA, G, NS, TO, m1, m2, q⟩ := h
    have hr1 : Room 1 _ := hr.mono (by decide)
    refine ⟨_, (pss_cons (ps_set (i := 3) scLStep.nd rfl (Or.inl rfl) (pe_call GD.ok hr1 (by rfl) GD.mg GD.kp GD.bd .nil pass0 (pa_cons (pv 0) (pa_cons (pe_lst (pa_cons pe_int (pa_cons (pv 2) (pa_cons pe_int (pa_cons pe_int (pa_cons pe_int (pa_cons pe_int (pa_cons pe_int (pa_cons pe_int pa_nil))))))))) pa_nil))))
      (pss_cons (ps_set (i := 4) scLStep.nd rfl (Or.inl rfl) (pe_lst (pa_cons pe_str (pa_cons pe_str (pa_cons pe_str (pa_cons pe_str (pa_cons pe_str (pa_cons pe_str (pa_cons pe_str (pa_cons pe_str (pa_cons pe_str (pa_cons pe_str (pa_cons pe_str (pa_cons pe_str pa_nil))))))))))))))
      (pss_cons (ps_set (i := 5) scLStep.nd rfl (Or.inl rfl) (pe_ix ix_list (pe_op op_cat (pv 4) (pe_lst (pa_cons pe_str (pa_cons pe_str (pa_cons pe_str (pa_cons pe_str (pa_cons pe_str (pa_cons pe_str pa_nil)))))))) (pe_ix ix_list (pv 3) pe_int (fun _ _ => rfl)) (fun _ _ => rfl)))
      (pss_cons (ps_set (i := 6) scLStep.nd rfl (Or.inl rfl) (pe_ix ix_list (pv 3) pe_int (fun _ _ => rfl)))
      (pss_cons (ps_set (i := 7) scLStep.nd rfl (Or.inr rfl) (pe_op op_add pe_int (pe_ix ix_list (pv 3) pe_int (fun _ _ => rfl))))
      (pss_cons (ps_set (i := 8) scLStep.nd rfl (Or.inl rfl) (pe_ix ix_list (pv 3) pe_int (fun _ _ => rfl)))
      (Evl.pss_cut (ps_if (pt_cmpR op_lt (pe_ix ix_list (pv 3) pe_int (fun _ _ => rfl)) pe_int (nomark _))
      (pss_one (ps_set (i := 8) scLStep.nd rfl (Or.inl rfl) (pe_op op_add pe_int (pe_ix ix_list (pv 3) pe_int (fun _ _ => rfl))))) pss_nil)
      (Evl.pss_cut (ps_set (i := 9) scLStep.nd rfl (Or.inl rfl) (pe_ix ix_tup (pe_dget2 (hu_of hr) (pe_dget (hu_of hr) (pv 1) pe_str (fun _ _ => rfl)) (pv 7) (pe_tup (pa_cons pe_int (pa_cons pe_dnewK (pa_cons (pe_tup (pa_cons (pe_tup pa_nil) (pa_cons pe_non pa_nil))) pa_nil)))) ⟨rfl, rfl, rfl, rfl⟩) pe_int (fun _ _ => rfl)))
      (Evl.pss_cut (ps_setLc (i := 10) (own := [("row", 15)]) (g := gName 15) (tt := tYes) (te := tOp (rIxT K) (tVar 15) (tC (.int 0))) (by rfl) scLStep.nd rfl rfl (sw_true rfl rfl rfl (by decide +kernel)) (pi_tup (pe_ix ix_tup (pv 9) pe_int (fun _ _ => rfl))) (blkOk_by (own := [("row", 15)]) (N := ["cell", "world", "many", "digits", "kinds", "kind", "host", "namespace", "place", "fence", "hosts", "way", "snaps", "held", "fields", "row", "name"]) (sc := defScope sLStep) (by decide +kernel)) (fun _ _ _ _ _ => pg_name (i := 15) scLStep.nd rfl (Or.inl rfl)) (fun _ _ _ _ _ => pts_nil) (fun _ _ _ _ _ => by exact (pe_ix ix_tup (pv 15) pe_int (fun _ _ => rfl))))
      (Evl.pss_cut (ps_if (PW.pt (pw_and (pt_cmpR op_eq (pv 5) pe_str (nomark _)) (pw_and (pt_cmpR op_in_seq (pe_ix ix_list (pv 3) pe_int (fun _ _ => rfl)) (pv 10) (by rfl)) (pw_and (pt_cmpR op_ne (pe_ix ix_list (pv 3) pe_int (fun _ _ => rfl)) (pv 6) (nomark _)) (pw_and1 (pt_cmpR op_in_seq (pv 6) (pv 10) (by rfl)))))))
      (pss_cons (ps_set (i := 11) scLStep.nd rfl (Or.inl rfl) pe_non)
      (Evl.pss_cut (ps_if (PW.pt (pw_and (pt_cmpR op_notN (pe_ix ix_tup (pv 9) pe_int (fun _ _ => rfl)) pe_non (nomark _)) (pw_and1 (pt_cmpR op_eq (pe_ix ix_tup (pe_ix ix_tup (pv 9) pe_int (fun _ _ => rfl)) pe_int (fun _ _ => rfl)) (pe_ix ix_list (pv 3) pe_int (fun _ _ => rfl)) (nomark _)))))
      (pss_one (ps_set (i := 11) scLStep.nd rfl (Or.inl rfl) (pe_ix ix_tup (pe_ix ix_tup (pv 9) pe_int (fun _ _ => rfl)) pe_int (fun _ _ => rfl)))) pss_nil)
      (pss_one (ps_ret (pe_call GN.ok hr1 (by rfl) GN.mg GN.kp GN.bd .nil pass0 (pa_cons (pv 1) (pa_cons pe_str (pa_cons (pv 6) (pa_cons (pe_tup (pa_cons (pv 7) (pa_cons (pe_ix ix_list (pv 3) pe_int (fun _ _ => rfl)) (pa_cons (pv 11) pa_nil)))) pa_nil))))))))) pss_nil)
      (Evl.pss_cut (ps_if (PW.pt (pw_and (pt_cmpR op_eq (pv 5) pe_str (nomark _)) (pw_and (pt_cmpR op_in_seq (pv 6) (pv 10) (by rfl)) (pw_and1 (pt_cmpR op_isN (pe_ix ix_tup (pv 9) pe_int (fun _ _ => rfl)) pe_non (nomark _))))))
      (pss_one (ps_ret (pe_call GN.ok hr1 (by rfl) GN.mg GN.kp GN.bd .nil pass0 (pa_cons (pv 1) (pa_cons pe_str (pa_cons (pv 6) (pa_cons (pe_tup (pa_cons (pv 7) (pa_cons (pe_ix ix_list (pe_lst (pa_cons pe_str (pa_cons pe_str pa_nil))) (pe_op op_mod (pe_ix ix_list (pv 3) pe_int (fun _ _ => rfl)) pe_int) (fun _ _ => rfl)) pa_nil))) pa_nil))))))) pss_nil)
      (Evl.pss_cut (ps_set (i := 12) scLStep.nd rfl (Or.inl rfl) (pe_callB cr_sortedPO (by rfl) B.sorted (by decide +kernel) (pa_cons (pe_lock (pe_lc (own := [("name", 16)]) (g := gName 16) (tt := tTest (tOp rEq (tOp (rIxT K) (tVar 16) (tC (.int 0))) (tVar 7))) (te := tVar 16) (by rfl) scLStep.nd (pi_keys (pe_dget (hu_of hr) (pv 1) pe_str (fun _ _ => rfl))) (blkOk_by (own := [("name", 16)]) (N := ["cell", "world", "many", "digits", "kinds", "kind", "host", "namespace", "place", "fence", "hosts", "way", "snaps", "held", "fields", "row", "name"]) (sc := defScope sLStep) (by decide +kernel)) (fun _ _ _ _ _ => pg_name (i := 16) scLStep.nd rfl (Or.inl rfl)) (fun _ _ _ _ _ => pts_one (by exact (pt_cmpR op_eq (pe_ix ix_tup (pv 16) pe_int (fun _ _ => rfl)) (pv 7) (nomark _)))) (fun _ _ _ _ _ => by exact (pv 16)))) pa_nil)))
      (Evl.pss_cut (ps_if (PW.pt (pw_and (pt_cmpR op_eq (pv 5) pe_str (nomark _)) (pw_and1 (pt_cmpR (op_neD (u64_of hr)) (pv 12) (pe_lst pa_nil) (nomark _)))))
      (pss_one (ps_ret (pe_call GN.ok hr1 (by rfl) GN.mg GN.kp GN.bd .nil pass0 (pa_cons (pv 1) (pa_cons pe_str (pa_cons (pv 6) (pa_cons (pe_ix ix_list (pv 12) (pe_op op_mod (pe_ix ix_list (pv 3) pe_int (fun _ _ => rfl)) (pe_callB call_len_seq (by rfl) B.len PySem.boot_len (pa_cons (pv 12) pa_nil))) (fun _ _ => rfl)) pa_nil))))))) pss_nil)
      (Evl.pss_cut (ps_if (ptcut (PW.pt (pw_or (pt_cmpR op_eq (pv 5) pe_str (nomark _)) (pw_or1 (pt_not (pt_val (pe_call GS.ok hr1 (by rfl) GS.mg GS.kp GS.bd .nil pass0 (pa_cons (pv 5) (pa_cons (pv 1) (pa_cons (pv 6) (pa_cons (pv 7) (pa_cons (pv 8) pa_nil))))))))))))
      (pss_one (ps_set (i := 5) scLStep.nd rfl (Or.inl rfl) (pe_ix ix_list (pe_lst (pa_cons pe_str (pa_cons pe_str pa_nil))) (pe_callTy call_int1 (by rfl) B.int (by decide +kernel) (pa_cons (pe_cmp (pc_din (hu_of hr) (pv 7) (pe_dget (hu_of hr) (pv 1) pe_str (fun _ _ => rfl))) rfl) pa_nil)) (fun _ _ => rfl)))) pss_nil)
      (Evl.pss_cut (ps_set (i := 13) scLStep.nd rfl (Or.inl rfl) (pe_and (pe_cmpR op_notN (pe_ix ix_tup (pv 9) pe_int (fun _ _ => rfl)) pe_non (nomark _)) (pe_one (pe_cmpR op_eq (pe_ix ix_tup (pe_ix ix_tup (pv 9) pe_int (fun _ _ => rfl)) pe_int (fun _ _ => rfl)) (pv 6) (nomark _)))))
      (pss_cons (ps_set (i := 14) scLStep.nd rfl (Or.inl rfl) (pe_disp (pps_cons pe_str (pe_tup (pa_cons (pv 7) (pa_cons (pv 8) (pa_cons (pe_op op_sub (pe_ix ix_list (pv 3) pe_int (fun _ _ => rfl)) pe_int) pa_nil)))) (pps_cons pe_str (pe_tup (pa_cons (pv 7) (pa_cons (pv 8) pa_nil))) (pps_cons pe_str (pe_tup (pa_cons (pv 7) (pa_cons pe_int pa_nil))) pps_nil))) rfl rfl (by decide) (by decide)))
      (pss_cons (ps_dput (hu_of hr) (pv 14) pe_str (pe_tup (pa_cons (pv 7) pa_nil)) rfl)
      (pss_cons (ps_dput (hu_of hr) (pv 14) pe_str (pe_tup (pa_cons (pv 7) pa_nil)) rfl)
      (pss_cons (ps_dput (hu_of hr) (pv 14) pe_str (pe_tup (pa_cons (pv 7) pa_nil)) rfl)
      (pss_cons (ps_dput (hu_of hr) (pv 14) pe_str (pe_tup (pa_cons (pv 7) pa_nil)) rfl)
      (pss_cons (ps_dput (hu_of hr) (pv 14) pe_str (pe_tup (pa_cons (pv 7) (pa_cons (pv 13) pa_nil))) rfl)
      (pss_cons (ps_dput (hu_of hr) (pv 14) pe_str (pe_tup (pa_cons (pe_call GT.ok hr1 (by rfl) GT.mg GT.kp GT.bd .nil pass0 (pa_cons (pv 1) (pa_cons (pv 6) pa_nil))) pa_nil)) rfl)
      (pss_one (ps_ret (pe_call GN.ok hr1 (by rfl) GN.mg GN.kp GN.bd .nil pass0 (pa_cons (pv 1) (pa_cons (pv 5) (pa_cons (pv 6) (pa_cons (pe_dget (hu_of hr) (pv 14) (pv 5) (fun _ _ => rfl)) pa_nil))))))))))))))))))))))))))))), ?_⟩
    refine ⟨_, rfl, _, rfl, by show 8 ≤ sizeLine; decide, fun l0 hl0 => ?_⟩
    have s1 := same_new (o := .lst [V.int 18, V.int m, V.int 6, V.int 9, V.int 4, V.int 4, V.int 3, V.int 12]) hl0
    refine ⟨c, l0, [18, m, 6, 9, 4, 4, 3, 12], rfl, SqL.of upd_same, by simp, ?_, fun l ds H2 _ s2 hl len rng => ?_⟩
    · intro x hx
      simp only [List.mem_cons, List.not_mem_nil, or_false] at hx
      omega
    have s12 := s1.trans s2
    obtain ⟨d0, d1, d2, d3, d4, d5, d6, d7, rfl⟩ : ∃ d0 d1 d2 d3 d4 d5 d6 d7, ds = [d0, d1, d2, d3, d4, d5, d6, d7] := by
      match ds, len with
      | [a, b, c, d, e, f, g, h], _ => exact ⟨a, b, c, d, e, f, g, h, rfl⟩
    have hs : SqL K H2 l [.int d0, .int d1, .int d2, .int d3, .int d4, .int d5, .int d6, .int d7] := SqL.of hl
    have r0 := rng 0 d0 18 rfl rfl
    have r1 := rng 1 d1 m rfl rfl
    have r2 := rng 2 d2 6 rfl rfl
    have r3 := rng 3 d3 9 rfl rfl
    have r4 := rng 4 d4 4 rfl rfl
    have r5 := rng 5 d5 4 rfl rfl
    have r6 := rng 6 d6 3 rfl rfl
    have SA2 := SA.same s12
    clear rng s1 s2 hl0 hl
    refine ⟨by show 12 ≤ sizeLine; decide, fun kl hkl => ?_⟩
    have s3 := same_new (o := .lst K12) hkl
    have hk3 : (upd H2 kl (.lst K12)) kl = some (.lst K12) := upd_same
    generalize upd H2 kl (.lst K12) = H3 at s3 hk3
    refine ⟨_, rfl, by show 6 ≤ sizeLine; decide, fun b2 hb2 => ⟨kl, b2, _, _, rfl, rfl, (same_new hb2) _ _ hk3, upd_same, by show 18 ≤ sizeLine; decide, fun p hp => ?_⟩⟩
    have s4 := s3.trans ((same_new (o := .lst K6) hb2).trans (same_new (o := .lst (K12 ++ K6)) hp))
    have hp4 : (upd (upd H3 b2 (.lst K6)) p (.lst (K12 ++ K6))) p = some (.lst (K12 ++ K6)) := upd_same
    generalize upd (upd H3 b2 (.lst K6)) p (.lst (K12 ++ K6)) = H4 at s4 hp4
    obtain ⟨i0, rfl⟩ : ∃ i : Nat, d0 = i := ⟨d0.toNat, by omega⟩
    obtain ⟨k, hk⟩ : ∃ k, KS18[i0]? = some k := ⟨_, List.getElem?_eq_getElem (show i0 < KS18.length by show i0 < 18; omega)⟩
    have km : k ∈ KS18 := List.mem_of_getElem? hk
    have hk' : (K12 ++ K6)[i0]? = some (V.str k) := by
      show (KS18.map V.str)[i0]? = _
      rw [List.getElem?_map, hk]; rfl
    have hs4 := s4.seq hs
    have SA4 := SA2.same s4
    have s04 := s12.trans s4
    refine ⟨_, rfl, l, _, _, _, rfl, rfl, hs4, atI_nat (j := 0) rfl, p, _, _, _, rfl, rfl, SqL.of hp4, atI_nat hk', ?_⟩
    clear hk' hp4 s4 hp hb2 hk3 s3 hkl s12 SA2
    refine ⟨_, rfl, l, _, _, _, rfl, rfl, hs4, atI_nat (j := 4) rfl, ?_⟩
    refine ⟨_, rfl, l, _, _, _, rfl, rfl, hs4, atI_nat (j := 1) rfl, _, _, rfl, rfl, ?_⟩
    refine ⟨_, rfl, l, _, _, _, rfl, rfl, hs4, atI_nat (j := 2) rfl, ?_⟩
    refine ⟨fun σ' G' => ∃ pl, Bn 1000 pl ∧ σ' = slotsL c w l kl m k d4 (1 + d1) pl [none, none, none, none, none, none, none, none] ∧ H4 = G', ?_, ?_⟩
    · refine ⟨_, rfl, l, _, _, _, rfl, rfl, hs4, atI_nat (j := 7) rfl, _, _, rfl, rfl, _, rfl, ?_⟩
      by_cases c0 : d7 < 2
      · refine chooseT (decide_eq_true c0) ?_
        exact ⟨_, rfl, l, _, _, _, rfl, rfl, hs4, atI_nat (j := 2) rfl, _, _, rfl, rfl, 58 + d2, by show ((58 + d2).natAbs : Int) ≤ 1000; omega, rfl, rfl⟩
      · refine chooseF (decide_eq_false c0) ?_
        exact ⟨d2, by show (d2.natAbs : Int) ≤ 1000; omega, rfl, rfl⟩
    rintro σ' G' ⟨pl, plb, rfl, rfl⟩
    obtain ⟨b1, b2, b3, ha, t1, t2, t3⟩ := id SA4
    obtain ⟨kvs1, hk1, pr1, nd1⟩ := id t1
    refine ⟨fun σ' G' => ∃ fv rg hd, σ' = slotsL c w l kl m k d4 (1 + d1) pl [some fv, none, none, none, none, none, none, none] ∧ Same H4 G' ∧ FenceAt K G' fv rg hd ∧ CsN 1000 rg ∧ HdN 1000 hd ∧ rg.length ≤ 900, ?_, ?_⟩
    · refine ⟨_, rfl, w, .ref b1, rfl, .inl ⟨_, .inr "spaces", .inl ha, rfl, rfl⟩, b1, rfl, .inl ⟨kvs1, .inl hk1⟩, _, rfl, ?_⟩
      refine fun D0 hD0 => ⟨by show 0 ≤ sizeLine; decide, fun e0 he0 => ⟨by show 2 ≤ sizeLine; decide, fun e1 he1 => ⟨by show 3 ≤ sizeLine; decide, fun e2 he2 => ?_⟩⟩⟩
      have u1 := same_new (o := .dK []) hD0
      have u2 := same_new (o := .tup []) he0
      have u3 := same_new (o := .tup [V.ref e0, V.non]) he1
      have u4 := same_new (o := .tup [V.int 1, V.ref D0, V.ref e1]) he2
      have k0 := (u3.trans u4) _ _ (upd_same (H := upd H4 D0 (.dK [])) (a := e0) (o := .tup []))
      have k1 := u4 _ _ (upd_same (H := upd (upd H4 D0 (.dK [])) e0 (.tup [])) (a := e1) (o := .tup [V.ref e0, V.non]))
      have k2 : (upd (upd (upd (upd H4 D0 (.dK [])) e0 (.tup [])) e1 (.tup [V.ref e0, V.non])) e2 (.tup [V.int 1, V.ref D0, V.ref e1])) e2 = some (.tup [V.int 1, V.ref D0, V.ref e1]) := upd_same
      have u := u1.trans (u2.trans (u3.trans u4))
      generalize upd (upd (upd (upd H4 D0 (.dK [])) e0 (.tup [])) e1 (.tup [V.ref e0, V.non])) e2 (.tup [V.int 1, V.ref D0, V.ref e1]) = H5 at u k0 k1 k2
      rcases pr_look (R := SpcAt K H4) eI_inj (k := 1 + d1) pr1 with ⟨l0', hz⟩ | ⟨sp, z, l0', hz, az⟩
      · refine ⟨none, .inl ⟨_, .inl (1 + d1), .inl (u _ _ hk1), rfl, hz.symm⟩, e2, _, _, _, rfl, rfl, SqT.of k2, atI_nat (j := 2) rfl, ?_⟩
        exact ⟨_, [], none, rfl, u, ⟨e1, e0, .non, rfl, SqT.of k1, ⟨[], SqT.of k0, .nil⟩, rfl⟩, (fun _ h => nomatch h), hd_none, Nat.zero_le _⟩
      · obtain ⟨a, cc, fv, rfl, hp, hc, hf⟩ := az.same u
        have nsp := (NS.sp _ (look_mem l0')).2
        refine ⟨some (.ref a), .inl ⟨_, .inl (1 + d1), .inl (u _ _ hk1), rfl, hz.symm⟩, a, _, _, _, rfl, rfl, hp, atI_nat (j := 2) rfl, ?_⟩
        exact ⟨fv, sp.rg, sp.hd, rfl, u, hf, nsp.rg, nsp.hd, (G.rg _ (look_mem l0')).2⟩
    rintro σ' H5 ⟨fv, rg, hd, rfl, s5, hf, rgn, hdn, rgl⟩
    obtain ⟨fa, fr, fhv, rfl, f1, f2, f4⟩ := id hf
    -- the hosts of the fence
    refine ⟨fun σ' G' => ∃ D, σ' = slotsL c w l kl m k d4 (1 + d1) pl [some (.ref fa), some (.ref D), none, none, none, none, none, none] ∧ Same H5 G' ∧ G' D = some (.lst (rg.map fun p => V.int p.1)), ?_, ?_⟩
    · refine ⟨_, rfl, fa, _, _, _, rfl, rfl, f1, atI_nat (j := 0) rfl, fr, rfl, ⟨_, f2.choose_spec.1⟩, fun D hD => ?_⟩
      refine lc_hosts f2 hD (by omega) (show 15 < 17 by decide) fun H' sm hDl => ?_
      exact ⟨D, rfl, sm, hDl⟩
    rintro σ' H6 ⟨D, rfl, s6, hD⟩
    have f1' := SqT_same s6 f1
    have f4' := f4.tk (TK.of s6)
    have hs6 := (s5.trans s6).seq hs4
    have SA6 := SA4.same (s5.trans s6)
    have s06 := s04.trans (s5.trans s6)
    have hN : (1 + d1).natAbs ≤ (1000 : Int) := by omega
    -- the place of the reservation
    have hold : ∀ (R : Prop), (∀ x y, hd = some (x, y) → (∃ t, fhv = .ref t ∧ SqT K H6 t [.int x, .str y]) → R) → (hd = none → fhv = .non → R) → R := fun R r1 r2 => by
      cases hd with
      | none => exact r2 rfl f4'
      | some p => obtain ⟨t, e, h1, _⟩ := f4'; exact r1 p.1 p.2 rfl ⟨t, e, h1⟩
    have fin : ∀ (b : Bd) (fl : Addr) (ys : List V) (H7 : Hp), Same H6 H7 → SqT K H7 fl ys → DpAll K H7 ys (fldD b) → BdN 1000 b → (∀ d, b = .mark d → d = told4 st d4) → spLNamed K [.ref w, .str (kindS b), .int d4, .ref fl] H7 Q E0 := fun b fl ys H7 s7 e1 e2 e3 e4 =>
      ⟨w, fl, st, d4, b, ys, rfl, SA6.same s7, e1, e2, fun stp H' s' hst => q (.ref stp) H' (s06.trans (s7.trans s')) ⟨stp, d4, b, rfl, r4.1, r4.2, e3, e4, hst⟩⟩
    refine ⟨fun σ' G' => σ' = slotsL c w l kl m k d4 (1 + d1) pl [some (.ref fa), some (.ref D), none, none, none, none, none, none] ∧ H6 = G', ?_, ?_⟩
    · refine ⟨_, rfl, rfl, _, rfl, ?_⟩
      by_cases ck : k = "preempt"
      · refine chooseT (decide_eq_true (by rw [ck])) ?_
        refine ⟨_, rfl, l, _, _, _, rfl, rfl, hs6, atI_nat (j := 5) rfl, _, rfl, D, _, rfl, .inl (SqL.of hD), rfl, ints_flat, _, rfl, chooseB (fun _ => ?_) fun _ => chooseF rfl ⟨rfl, rfl⟩⟩
        refine ⟨_, rfl, l, _, _, _, rfl, rfl, hs6, atI_nat (j := 5) rfl, _, rfl, rfl, _, rfl, chooseB (fun _ => ?_) fun _ => chooseF rfl ⟨rfl, rfl⟩⟩
        refine ⟨_, rfl, _, rfl, D, _, rfl, .inl (SqL.of hD), rfl, ints_flat, _, rfl, chooseB (fun _ => ?_) fun _ => ⟨rfl, rfl⟩⟩
        refine ⟨fun σ' G' => ∃ wy, σ' = slotsL c w l kl m k d4 (1 + d1) pl [some (.ref fa), some (.ref D), some (wayV wy), none, none, none, none, none] ∧ H6 = G' ∧ ∀ x, wy = some x → x ∈ (["write", "alone"] : List Str), ?_, ?_⟩
        · refine ⟨_, rfl, fa, _, _, _, rfl, rfl, f1', atI_nat (j := 1) rfl, rfl, _, rfl, ?_⟩
          refine hold _ (fun x y e ⟨t, et, ht⟩ => ?_) fun e et => ?_
          · subst et
            refine chooseT rfl ?_
            refine ⟨_, rfl, fa, _, _, _, rfl, rfl, f1', atI_nat (j := 1) rfl, t, _, _, _, rfl, rfl, ht, atI_nat (j := 0) rfl, _, rfl, l, _, _, _, rfl, rfl, hs6, atI_nat (j := 5) rfl, rfl, _, rfl, chooseB (fun _ => ?_) fun _ => ⟨none, rfl, rfl, fun x e => nomatch e⟩⟩
            exact ⟨_, rfl, fa, _, _, _, rfl, rfl, f1', atI_nat (j := 1) rfl, t, _, _, _, rfl, rfl, ht, atI_nat (j := 1) rfl, some y, rfl, rfl, fun z e' => by cases e'; exact (hdn x y e).2⟩
          · subst et
            exact chooseF rfl (chooseF rfl ⟨none, rfl, rfl, fun x e => nomatch e⟩)
        rintro σ' _ ⟨wy, rfl, rfl, hw⟩
        refine ⟨_, rfl, _, rfl, _, rfl, _, rfl, l, _, _, _, rfl, rfl, hs6, atI_nat (j := 5) rfl, _, rfl, by show 3 ≤ sizeLine; decide, fun p hp => ?_⟩
        exact fin (.preempt (1 + d1) d5 wy) p _ _ (same_new hp) (SqT.of upd_same) (.cons (.int _) (.cons (.int _) (.cons way_dp .nil))) ⟨hN, by omega, hw⟩ fun d e => nomatch e
      · exact chooseF (str_eqF ck) (chooseF rfl ⟨rfl, rfl⟩)
    rintro σ' _ ⟨rfl, rfl⟩
    refine ⟨fun σ' G' => σ' = slotsL c w l kl m k d4 (1 + d1) pl [some (.ref fa), some (.ref D), none, none, none, none, none, none] ∧ H6 = G', ?_, ?_⟩
    · refine ⟨_, rfl, rfl, _, rfl, ?_⟩
      by_cases ck : k = "reserve"
      · refine chooseT (decide_eq_true (by rw [ck])) ?_
        refine ⟨_, rfl, _, rfl, D, _, rfl, .inl (SqL.of hD), rfl, ints_flat, _, rfl, chooseB (fun _ => ?_) fun _ => chooseF rfl ⟨rfl, rfl⟩⟩
        refine ⟨_, rfl, fa, _, _, _, rfl, rfl, f1', atI_nat (j := 1) rfl, rfl, _, rfl, chooseB (fun _ => ?_) fun _ => ⟨rfl, rfl⟩⟩
        refine ⟨_, rfl, _, rfl, _, rfl, by show 2 ≤ sizeLine; decide, fun q2 hq2 => ?_⟩
        have v1 := same_new (o := .lst [V.str "write", V.str "alone"]) hq2
        have v2 : (upd H6 q2 (.lst [V.str "write", V.str "alone"])) q2 = some (.lst [V.str "write", V.str "alone"]) := upd_same
        generalize upd H6 q2 (.lst [V.str "write", V.str "alone"]) = H7 at v1 v2
        obtain ⟨i, wd, ei, hwd, mwd⟩ : ∃ (i : Nat) (x : Str), d6 % 2 = (i : Int) ∧ [V.str "write", V.str "alone"][i]? = some (V.str x) ∧ x ∈ (["write", "alone"] : List Str) := by
          rcases (show d6 % 2 = 0 ∨ d6 % 2 = 1 by omega) with e | e
          · exact ⟨0, "write", e, rfl, by decide⟩
          · exact ⟨1, "alone", e, rfl, by decide⟩
        refine ⟨_, rfl, l, _, _, _, rfl, rfl, v1.seq hs6, atI_nat (j := 6) rfl, _, _, rfl, rfl, (show (0 : Int) < 2 by decide), q2, _, _, _, rfl, rfl, SqL.of v2, by rw [ei]; exact atI_nat hwd, by show 2 ≤ sizeLine; decide, fun p hp => ?_⟩
        exact fin (.reserve (1 + d1) wd) p _ _ (v1.trans (same_new hp)) (SqT.of upd_same) (.cons (.int _) (.cons (.str _) .nil)) ⟨hN, mwd⟩ fun d e => nomatch e
      · exact chooseF (str_eqF ck) (chooseF rfl ⟨rfl, rfl⟩)
    rintro σ' _ ⟨rfl, rfl⟩
    -- the snapshots of the space
    refine ⟨fun σ' G' => ∃ S ys, σ' = slotsL c w l kl m k d4 (1 + d1) pl [some (.ref fa), some (.ref D), none, some (.ref S), none, none, none, none] ∧ Same H6 G' ∧ G' S = some (.lst ys) ∧ ys.length ≤ 1000 ∧ ∀ y ∈ ys, PairV G' y ∧ Bn 1000 (kOf G' y).1 ∧ Bn 1000 (kOf G' y).2, ?_, ?_⟩
    · obtain ⟨c1, c2, c3, ca, t1', ⟨kvs2, hk2, pr2, nd2⟩, t3'⟩ := id SA6
      refine keepK_te (kdT K) (d := c2) (kvs := kvs2) (fun k => decide (k.head? = some (.inl (1 + d1)))) (show 16 < 17 by decide) (fun H1 R e r => ?_) hk2 (by rw [Paired.length pr2]; exact Nat.le_trans G.sm.sn (by decide)) (fun x kk H' Q' hkk hat _ k' => ?_) fun D2 xs H' s7 hD2 pr => ?_
      · exact ⟨_, rfl, w, .ref c2, rfl, .inl ⟨_, .inr "snaps", .inl (e _ _ (fun z => by rw [z, hk2] at ca; cases ca) ca), rfl, rfl⟩, r⟩
      · obtain ⟨b, rfl, hb⟩ := hat
        obtain ⟨qq, hq, rfl⟩ : ∃ q : (Int × Int) × Cells, q ∈ st.sn ∧ kk = eP q.1 := by
          rw [pr_keys (R := SnpAt K H6) pr2] at hkk
          obtain ⟨q, h1, h2⟩ := List.mem_map.mp hkk
          exact ⟨q, h1, h2.symm⟩
        refine ⟨_, rfl, b, _, _, _, rfl, rfl, SqT.of hb, atI_nat (j := 0) rfl, _, rfl, rfl, _, rfl, ?_⟩
        have e : decide (V.int qq.1.1 = V.int (1 + d1)) = decide ((eP qq.1).head? = some (.inl (1 + d1))) := by
          rw [dec_int]
          by_cases z : qq.1.1 = 1 + d1
          · simp [z, eP]
          · simp [z, eP]
        exact e ▸ k'
      · have px : ∀ x ∈ xs, PairV H' x ∧ Bn 1000 (kOf H' x).1 ∧ Bn 1000 (kOf H' x).2 := fun x hx => by
          obtain ⟨i, hi⟩ := List.mem_iff_getElem?.mp hx
          obtain ⟨kv, hkv, b, rfl, hb⟩ := paired_at pr hi
          have hm : kv ∈ kvs2 := (List.mem_filter.mp (List.mem_of_getElem? hkv)).1
          obtain ⟨j, hj⟩ := List.mem_iff_getElem?.mp hm
          obtain ⟨q, hq, e1, _⟩ := paired_at pr2 hj
          have hb' : H' b = some (.tup [.int q.1.1, .int q.1.2]) := by rw [e1] at hb; exact hb
          have ek := kOf_at hb'
          have nq := NS.sn q (List.mem_of_getElem? hq)
          refine ⟨⟨b, rfl, by rw [ek]; exact hb'⟩, by rw [ek]; exact nq.1, by rw [ek]; exact nq.2.1⟩
        have lx : xs.length ≤ 1000 := by
          rw [Paired.length pr]
          refine Nat.le_trans (List.length_filter_le _ _) ?_
          rw [Paired.length pr2]; exact Nat.le_trans G.sm.sn (by decide)
        refine ⟨D2, xs, kOf H', rfl, SqL.of hD2, fun x hx => (px x hx).1, fun ys S so stb hS => ?_⟩
        have s8 := same_new (o := .lst ys) hS
        refine ⟨S, ys, rfl, s7.trans s8, upd_same, by rw [stb.perm.length_eq]; exact lx, fun y hy => ?_⟩
        have a := px y (stb.perm.mem_iff.mp hy)
        have b := a.1.tk (TK.of s8)
        refine ⟨b.1, ?_, ?_⟩
        · rw [b.2]; exact a.2.1
        · rw [b.2]; exact a.2.2
    rintro σ' H7 ⟨S, ys, rfl, s7, hS, lS, pS⟩
    have hs7 := s7.seq hs6
    have SA7 := SA6.same s7
    refine ⟨fun σ' G' => σ' = slotsL c w l kl m k d4 (1 + d1) pl [some (.ref fa), some (.ref D), none, some (.ref S), none, none, none, none] ∧ Same H7 G', ?_, ?_⟩
    · refine ⟨_, rfl, rfl, _, rfl, ?_⟩
      by_cases ck : k = "drop"
      · refine chooseT (decide_eq_true (by rw [ck])) ?_
        have pv := fun y hy => (pS y hy).1
        refine ⟨_, rfl, by show 0 ≤ sizeLine; decide, fun z hz => ⟨_, _, .lst (SqL.of ((same_new hz) _ _ hS)) (pairs_dp fun y hy => ((pv y hy).tk (TK.of (same_new hz))).1), .lst (SqL.of upd_same) .nil, shaped_list ?_ ?_, shaped_list rfl (by decide), _, rfl, ?_⟩⟩
        · have := (rows_lay (ys.map (kOf (upd H7 z (.lst []))))).1
          rw [List.map_map] at this; exact this
        · have := (rows_lay (ys.map (kOf (upd H7 z (.lst []))))).2
          rw [List.map_map] at this; exact Nat.le_trans this (by decide)
        have s8 := same_new (o := .lst []) hz
        generalize upd H7 z (.lst []) = H8 at s8
        rw [list_nil]
        cases ys with
        | nil => exact chooseF rfl ⟨rfl, s8⟩
        | cons y0 yr =>
          refine chooseT rfl ?_
          have hS8 := s8 _ _ hS
          have l0' : (0 : Int) < ((y0 :: yr).length : Nat) := by rw [List.length_cons]; omega
          obtain ⟨i, ei, il⟩ : ∃ i : Nat, d3 % ((y0 :: yr).length : Nat) = (i : Int) ∧ i < (y0 :: yr).length := by
            have a := Int.emod_nonneg d3 (show (((y0 :: yr).length : Nat) : Int) ≠ 0 by omega)
            have b := Int.emod_lt_of_pos d3 l0'
            exact ⟨(d3 % ((y0 :: yr).length : Nat)).toNat, by omega, by omega⟩
          have hy := List.getElem?_eq_getElem il
          have py := pS _ (List.mem_of_getElem? hy)
          generalize (y0 :: yr)[i] = y at hy py
          obtain ⟨t, et, ht⟩ := py.1
          have pn := py.2
          have et' : y = .ref t := et
          subst et'
          refine ⟨_, rfl, _, rfl, _, rfl, _, rfl, l, _, _, _, rfl, rfl, s8.seq hs7, atI_nat (j := 3) rfl, _, rfl, S, _, rfl, .inl (SqL.of hS8), _, _, rfl, rfl, l0', S, _, _, _, rfl, rfl, SqL.of hS8, by rw [ei]; exact atI_nat hy, ?_⟩
          exact fin (.drop (kOf H7 (.ref t)).1 (kOf H7 (.ref t)).2) t _ _ (s7.trans s8) (SqT.of (s8 _ _ ht)) (.cons (.int _) (.cons (.int _) .nil)) ⟨pn.1, pn.2⟩ fun d e => nomatch e
      · exact chooseF (str_eqF ck) (chooseF rfl ⟨rfl, Same.refl _⟩)
    rintro σ' H8 ⟨rfl, s8⟩
    have hs8 := s8.seq hs7
    have SA8 := SA7.same s8
    have s68 := s7.trans s8
    -- a kind that may be
    refine ⟨fun σ' G' => ∃ k', k' ∈ KS9 ∧ σ' = slotsL c w l kl m k' d4 (1 + d1) pl [some (.ref fa), some (.ref D), none, some (.ref S), none, none, none, none] ∧ Same H8 G', ?_, ?_⟩
    · refine ⟨fun b G' => Same H8 G' ∧ (b = false → k ∈ KS9), ?_, ?_⟩
      · refine ⟨_, rfl, rfl, _, rfl, ?_⟩
        by_cases ck : k = "drop"
        · exact chooseT (decide_eq_true (by rw [ck])) ⟨Same.refl _, fun e => nomatch e⟩
        · refine chooseF (str_eqF ck) ?_
          refine ⟨_, rfl, _, rfl, _, rfl, _, rfl, _, rfl, k, w, st, d4, 1 + d1, pl, rfl, SA8, G, fun b H' s' hb => ⟨_, rfl, s', fun e => ?_⟩⟩
          have hb' := hb (by cases b with | true => rfl | false => cases e)
          exact ks_in k km hb'.1 hb'.2 ck
      · rintro b H9 ⟨s9, hb⟩
        refine chooseB (fun _ => ?_) fun e => ⟨k, hb e, rfl, s9⟩
        obtain ⟨c1, c2, c3, ca, ⟨kvs3, hk3, pr3, nd3⟩, _⟩ := SA8.same s9
        refine ⟨by show 2 ≤ sizeLine; decide, fun q3 hq3 => ?_⟩
        have v1 := same_new (o := .lst [V.str "make", V.str "write"]) hq3
        have v2 : (upd H9 q3 (.lst [V.str "make", V.str "write"])) q3 = some (.lst [V.str "make", V.str "write"]) := upd_same
        generalize upd H9 q3 (.lst [V.str "make", V.str "write"]) = H10 at v1 v2
        refine ⟨_, rfl, _, rfl, w, .ref c1, rfl, .inl ⟨_, .inr "spaces", .inl (v1 _ _ ca), rfl, rfl⟩, c1, _, rfl, .inl ⟨kvs3, .inl (1 + d1), .inl (v1 _ _ hk3), rfl, rfl⟩, .inr ⟨_, rfl, ?_⟩⟩
        cases valV kvs3 (.inl (1 + d1)) with
        | none => exact ⟨q3, _, _, _, rfl, rfl, SqL.of v2, atI_nat (j := 0) rfl, "make", by decide, rfl, s9.trans v1⟩
        | some z => exact ⟨q3, _, _, _, rfl, rfl, SqL.of v2, atI_nat (j := 1) rfl, "write", by decide, rfl, s9.trans v1⟩
    rintro σ' H9 ⟨k', hk9, rfl, s9⟩
    have s69 := s68.trans s9
    have hs9 := s9.seq hs8
    have f1s := SqT_same s69 f1'
    refine ⟨fun σ' G' => ∃ hb : Bool, σ' = slotsL c w l kl m k' d4 (1 + d1) pl [some (.ref fa), some (.ref D), none, some (.ref S), some (.bl hb), none, none, none] ∧ H9 = G', ?_, ?_⟩
    · refine ⟨_, rfl, fa, _, _, _, rfl, rfl, f1s, atI_nat (j := 1) rfl, rfl, _, rfl, ?_⟩
      refine hold _ (fun x y e ⟨t, et, ht⟩ => ?_) fun e et => ?_
      · subst et
        refine chooseT rfl ?_
        exact ⟨_, rfl, fa, _, _, _, rfl, rfl, f1s, atI_nat (j := 1) rfl, t, _, _, _, rfl, rfl, SqT_same s69 ht, atI_nat (j := 0) rfl, _, rfl, rfl, _, rfl, rfl⟩
      · subst et
        exact chooseF rfl ⟨_, rfl, rfl⟩
    rintro σ' _ ⟨hb, rfl, rfl⟩
    refine asg_e ?_
    intro F hF
    have w0 := same_new (o := .dK []) hF
    have x0 : (upd H9 F (.dK [])) F = some (.dK []) := upd_same
    generalize upd H9 F (.dK []) = G0 at w0 x0
    refine ⟨_, rfl, _, rfl, _, rfl, l, _, _, _, rfl, rfl, w0.seq hs9, atI_nat (j := 3) rfl, _, _, rfl, rfl, by show 3 ≤ sizeLine; decide, fun p1 hp1 => ?_⟩
    have w1 := same_new (o := .tup [V.int (1 + d1), V.int pl, V.int (d3 - 2)]) hp1
    have x1 : (upd G0 p1 (.tup [V.int (1 + d1), V.int pl, V.int (d3 - 2)])) p1 = some (.tup [V.int (1 + d1), V.int pl, V.int (d3 - 2)]) := upd_same
    generalize upd G0 p1 (.tup [V.int (1 + d1), V.int pl, V.int (d3 - 2)]) = G1 at w1 x1
    refine ⟨_, rfl, _, rfl, by show 2 ≤ sizeLine; decide, fun p2 hp2 => ?_⟩
    have w2 := same_new (o := .tup [V.int (1 + d1), V.int pl]) hp2
    have x2 : (upd G1 p2 (.tup [V.int (1 + d1), V.int pl])) p2 = some (.tup [V.int (1 + d1), V.int pl]) := upd_same
    generalize upd G1 p2 (.tup [V.int (1 + d1), V.int pl]) = G2 at w2 x2
    refine ⟨_, rfl, by show 2 ≤ sizeLine; decide, fun p3 hp3 => ?_⟩
    have w3 := same_new (o := .tup [V.int (1 + d1), V.int 64]) hp3
    have x3 : (upd G2 p3 (.tup [V.int (1 + d1), V.int 64])) p3 = some (.tup [V.int (1 + d1), V.int 64]) := upd_same
    generalize upd G2 p3 (.tup [V.int (1 + d1), V.int 64]) = G3 at w3 x3
    have y0 := w3 _ _ (w2 _ _ (w1 _ _ x0))
    refine ⟨y0, [(.inr "write", .ref p1), (.inr "trim", .ref p2), (.inr "make", .ref p3)], rfl, by show 3 ≤ 15; decide, ?_⟩
    have nn : ∀ {p : Addr} {xs : List V} {Gx : Hp}, Gx F = some (.dK []) → Gx p = some (.tup xs) → p ≠ F := fun a b e => by rw [e, a] at b; cases b
    have n1 := nn (w1 _ _ x0) x1
    have n2 := nn (w2 _ _ (w1 _ _ x0)) x2
    have n3 := nn y0 x3
    have t1' := w3 _ _ (w2 _ _ x1)
    have t2' := w3 _ _ x2
    have k0 : Kp F H9 G3 := Kp.of (w0.trans (w1.trans (w2.trans w3)))
    have em : mergeK [] [((.inr "write" : Key), V.ref p1), (.inr "trim", .ref p2), (.inr "make", .ref p3)] = [(.inr "write", .ref p1), (.inr "trim", .ref p2), (.inr "make", .ref p3)] := rfl
    rw [em]
    have kF : Kp F G3 (upd G3 F (.dK [(.inr "write", .ref p1), (.inr "trim", .ref p2), (.inr "make", .ref p3)])) := fun b o n e => by rw [upd_ne n]; exact e
    have eF : (upd G3 F (.dK [(.inr "write", .ref p1), (.inr "trim", .ref p2), (.inr "make", .ref p3)])) F = some (.dK [(.inr "write", .ref p1), (.inr "trim", .ref p2), (.inr "make", .ref p3)]) := upd_same
    generalize upd G3 F (.dK [(.inr "write", .ref p1), (.inr "trim", .ref p2), (.inr "make", .ref p3)]) = G4 at kF eF
    have z1 := kF _ _ n1 t1'
    have z2 := kF _ _ n2 t2'
    have z3 := kF _ _ n3 x3
    show tSeq _ _ _ _ _
    refine put_f (kvs' := [(.inr "write", .ref p1), (.inr "trim", .ref p2), (.inr "make", .ref p3)]) rfl (fun R r => ⟨_, rfl, r⟩) (by show 1 ≤ 3; decide) eF (by show 3 ≤ 20; decide) (fun _ => rfl) fun p4 G5 k5 e5 z4 n4 => ?_
    refine put_f (kvs' := [(.inr "write", .ref p1), (.inr "trim", .ref p2), (.inr "make", .ref p3), (.inr "snap", .ref p4)]) rfl (fun R r => ⟨_, rfl, r⟩) (by show 1 ≤ 3; decide) e5 (by show 4 ≤ 20; decide) (fun _ => rfl) fun p5 G6 k6 e6 z5 n5 => ?_
    refine put_f (kvs' := [(.inr "write", .ref p1), (.inr "trim", .ref p2), (.inr "make", .ref p3), (.inr "snap", .ref p4), (.inr "remove", .ref p5)]) rfl (fun R r => ⟨_, rfl, r⟩) (by show 1 ≤ 3; decide) e6 (by show 5 ≤ 20; decide) (fun _ => rfl) fun p6 G7 k7 e7 z6 n6 => ?_
    refine put_f (kvs' := [(.inr "write", .ref p1), (.inr "trim", .ref p2), (.inr "make", .ref p3), (.inr "snap", .ref p4), (.inr "remove", .ref p5), (.inr "register", .ref p6)]) rfl (fun R r => ⟨_, rfl, r⟩) (by show 1 ≤ 3; decide) e7 (by show 6 ≤ 20; decide) (fun _ => rfl) fun p7 G8 k8 e8 z7 n7 => ?_
    refine put_f (kvs' := [(.inr "write", .ref p1), (.inr "trim", .ref p2), (.inr "make", .ref p3), (.inr "snap", .ref p4), (.inr "remove", .ref p5), (.inr "register", .ref p6), (.inr "release", .ref p7)]) rfl (fun R r => ⟨_, rfl, _, rfl, r⟩) (by show 2 ≤ 3; decide) e8 (by show 7 ≤ 20; decide) (fun _ => rfl) fun p8 G9 k9 e9 z8 n8 => ?_
    have hF0 : H9 F = none := hF
    have sm9 : Same H9 G9 := fun b o e => (k0.trans (kF.trans (k5.trans (k6.trans (k7.trans (k8.trans k9)))))) b o (fun z => by rw [z, hF0] at e; cases e) e
    have SA9 := (SA8.same s9).same sm9
    refine ⟨_, rfl, _, rfl, w, st, d4, rfl, SA9, fun mv G10 s10 hm => ⟨by show 1 ≤ sizeLine; decide, fun p9 hp9 => ?_⟩⟩
    have s11 := same_new (o := .tup [mv]) hp9
    have x9 : (upd G10 p9 (.tup [mv])) p9 = some (.tup [mv]) := upd_same
    generalize upd G10 p9 (.tup [mv]) = G11 at s11 x9
    have sA := s10.trans s11
    have eF11 := sA _ _ e9
    refine ⟨_, rfl, F, _, rfl, DPut.k (k := .inr "mark") eF11 (by show 8 < sizeLine; decide), ?_⟩
    have n9 : p9 ≠ F := fun e => by rw [e, eF11] at x9; cases x9
    have kL : Kp F G11 (upd G11 F (.dK ([(.inr "write", .ref p1), (.inr "trim", .ref p2), (.inr "make", .ref p3), (.inr "snap", .ref p4), (.inr "remove", .ref p5), (.inr "register", .ref p6), (.inr "release", .ref p7), (.inr "leave", .ref p8), (.inr "mark", .ref p9)]))) := fun b o n e => by rw [upd_ne n]; exact e
    have eL : (upd G11 F (.dK ([(.inr "write", .ref p1), (.inr "trim", .ref p2), (.inr "make", .ref p3), (.inr "snap", .ref p4), (.inr "remove", .ref p5), (.inr "register", .ref p6), (.inr "release", .ref p7), (.inr "leave", .ref p8), (.inr "mark", .ref p9)]))) F = some (.dK ([(.inr "write", .ref p1), (.inr "trim", .ref p2), (.inr "make", .ref p3), (.inr "snap", .ref p4), (.inr "remove", .ref p5), (.inr "register", .ref p6), (.inr "release", .ref p7), (.inr "leave", .ref p8), (.inr "mark", .ref p9)])) := upd_same
    have eq : putK ([((.inr "write" : Key), V.ref p1), (.inr "trim", .ref p2), (.inr "make", .ref p3), (.inr "snap", .ref p4), (.inr "remove", .ref p5), (.inr "register", .ref p6), (.inr "release", .ref p7)] ++ [(.inr "leave", .ref p8)]) (.inr "mark") (.ref p9) = [(.inr "write", .ref p1), (.inr "trim", .ref p2), (.inr "make", .ref p3), (.inr "snap", .ref p4), (.inr "remove", .ref p5), (.inr "register", .ref p6), (.inr "release", .ref p7), (.inr "leave", .ref p8), (.inr "mark", .ref p9)] := rfl
    have eq' : (upd G11 F (.dK (putK ([((.inr "write" : Key), V.ref p1), (.inr "trim", .ref p2), (.inr "make", .ref p3), (.inr "snap", .ref p4), (.inr "remove", .ref p5), (.inr "register", .ref p6), (.inr "release", .ref p7)] ++ [(.inr "leave", .ref p8)]) (.inr "mark") (.ref p9)))) = upd G11 F (.dK [(.inr "write", .ref p1), (.inr "trim", .ref p2), (.inr "make", .ref p3), (.inr "snap", .ref p4), (.inr "remove", .ref p5), (.inr "register", .ref p6), (.inr "release", .ref p7), (.inr "leave", .ref p8), (.inr "mark", .ref p9)]) := by rw [eq]
    have kA : Kp F G9 (upd G11 F (.dK (putK ([((.inr "write" : Key), V.ref p1), (.inr "trim", .ref p2), (.inr "make", .ref p3), (.inr "snap", .ref p4), (.inr "remove", .ref p5), (.inr "register", .ref p6), (.inr "release", .ref p7)] ++ [(.inr "leave", .ref p8)]) (.inr "mark") (.ref p9)))) := by rw [eq']; exact (Kp.of sA).trans kL
    have x9L : (upd G11 F (.dK (putK ([((.inr "write" : Key), V.ref p1), (.inr "trim", .ref p2), (.inr "make", .ref p3), (.inr "snap", .ref p4), (.inr "remove", .ref p5), (.inr "register", .ref p6), (.inr "release", .ref p7)] ++ [(.inr "leave", .ref p8)]) (.inr "mark") (.ref p9)))) p9 = some (.tup [mv]) := by rw [eq']; exact kL _ _ n9 x9
    have tkm : TK G10 (upd G11 F (.dK (putK ([((.inr "write" : Key), V.ref p1), (.inr "trim", .ref p2), (.inr "make", .ref p3), (.inr "snap", .ref p4), (.inr "remove", .ref p5), (.inr "register", .ref p6), (.inr "release", .ref p7)] ++ [(.inr "leave", .ref p8)]) (.inr "mark") (.ref p9)))) := (TK.of s11).trans (tk_upd eF11 (fun _ z => nomatch z) (fun _ _ z => nomatch z))
    have eLL : (upd G11 F (.dK (putK ([((.inr "write" : Key), V.ref p1), (.inr "trim", .ref p2), (.inr "make", .ref p3), (.inr "snap", .ref p4), (.inr "remove", .ref p5), (.inr "register", .ref p6), (.inr "release", .ref p7)] ++ [(.inr "leave", .ref p8)]) (.inr "mark") (.ref p9)))) F = some (.dK [(.inr "write", .ref p1), (.inr "trim", .ref p2), (.inr "make", .ref p3), (.inr "snap", .ref p4), (.inr "remove", .ref p5), (.inr "register", .ref p6), (.inr "release", .ref p7), (.inr "leave", .ref p8), (.inr "mark", .ref p9)]) := by rw [eq']; exact eL
    generalize (upd G11 F (.dK (putK ([((.inr "write" : Key), V.ref p1), (.inr "trim", .ref p2), (.inr "make", .ref p3), (.inr "snap", .ref p4), (.inr "remove", .ref p5), (.inr "register", .ref p6), (.inr "release", .ref p7)] ++ [(.inr "leave", .ref p8)]) (.inr "mark") (.ref p9)))) = G12 at kA x9L tkm eLL
    have sm12 : Same H9 G12 := fun b o e => kA b o (fun z => by rw [z, hF0] at e; cases e) (sm9 _ _ e)
    have kk := k5.trans (k6.trans (k7.trans (k8.trans (k9.trans kA))))
    have y1 := SqT.of (K := K) (kk _ _ n1 z1)
    have y2 := SqT.of (K := K) (kk _ _ n2 z2)
    have y3 := SqT.of (K := K) (kk _ _ n3 z3)
    have y4 := SqT.of (K := K) ((k6.trans (k7.trans (k8.trans (k9.trans kA)))) _ _ n4 z4)
    have y5 := SqT.of (K := K) ((k7.trans (k8.trans (k9.trans kA))) _ _ n5 z5)
    have y6 := SqT.of (K := K) ((k8.trans (k9.trans kA)) _ _ n6 z6)
    have y7 := SqT.of (K := K) ((k9.trans kA) _ _ n7 z7)
    have y8 := SqT.of (K := K) (kA _ _ n8 z8)
    have tab : ∃ b p ys, kindS b = k' ∧ valV [((.inr "write" : Key), V.ref p1), (.inr "trim", .ref p2), (.inr "make", .ref p3), (.inr "snap", .ref p4), (.inr "remove", .ref p5), (.inr "register", .ref p6), (.inr "release", .ref p7), (.inr "leave", .ref p8), (.inr "mark", .ref p9)] (.inr k') = some (.ref p) ∧ SqT K G12 p ys ∧ DpAll K G12 ys (fldD b) ∧ BdN 1000 b ∧ ∀ d, b = .mark d → d = told4 st d4 := by
      have hN' : Bn 1000 (1 + d1) := hN
      simp only [KS9, List.mem_cons, List.not_mem_nil, or_false] at hk9
      rcases hk9 with rfl | rfl | rfl | rfl | rfl | rfl | rfl | rfl | rfl
      · exact ⟨.write (1 + d1) pl (d3 - 2), p1, _, rfl, rfl, y1, .cons (.int _) (.cons (.int _) (.cons (.int _) .nil)), ⟨hN, plb, by omega⟩, fun d e => nomatch e⟩
      · exact ⟨.trim (1 + d1) pl, p2, _, rfl, rfl, y2, .cons (.int _) (.cons (.int _) .nil), ⟨hN, plb⟩, fun d e => nomatch e⟩
      · exact ⟨.make (1 + d1) 64, p3, _, rfl, rfl, y3, .cons (.int _) (.cons (.int _) .nil), ⟨hN, by decide⟩, fun d e => nomatch e⟩
      · exact ⟨.snap (1 + d1), p4, _, rfl, rfl, y4, .cons (.int _) .nil, hN, fun d e => nomatch e⟩
      · exact ⟨.remove (1 + d1), p5, _, rfl, rfl, y5, .cons (.int _) .nil, hN, fun d e => nomatch e⟩
      · exact ⟨.register (1 + d1), p6, _, rfl, rfl, y6, .cons (.int _) .nil, hN, fun d e => nomatch e⟩
      · exact ⟨.release (1 + d1), p7, _, rfl, rfl, y7, .cons (.int _) .nil, hN, fun d e => nomatch e⟩
      · exact ⟨.leave (1 + d1) hb, p8, _, rfl, rfl, y8, .cons (.int _) (.cons (.bl _) .nil), hN, fun d e => nomatch e⟩
      · exact ⟨.mark (told4 st d4), p9, _, rfl, rfl, SqT.of x9L, .cons (dp_tk tkm _ _ (TO d4) hm) .nil, True.intro, fun d e => by cases e; rfl⟩
    obtain ⟨b, p, ys', rfl, hv, a1, a2, a3, a4⟩ := tab
    refine ⟨_, rfl, _, rfl, _, rfl, _, rfl, _, rfl, F, .ref p, rfl, .inl ⟨_, .inr (kindS b), .inl eLL, rfl, hv.symm⟩, ?_⟩
    exact fin b p ys' G12 (s69.trans sm12) a1 a2 a3 a4
end
end Sg

set_option Elab.async false
set_option linter.all false
set_option maxRecDepth 100000
set_option maxHeartbeats 4000000
namespace Sg
open PySem PySem.Spec PyProof.Rows L2
/-! ### what stands in every turn of the law -/
theorem asc_inj {rs : List Rc} (h : rs.Pairwise (fun x y => x.o < y.o)) : ∀ x ∈ rs, ∀ y ∈ rs, x.o = y.o → x = y := by
  induction rs with
  | nil => intro x hx; cases hx
  | cons r rs ih =>
    rw [List.pairwise_cons] at h
    intro x hx y hy e
    rcases List.mem_cons.mp hx with e1 | h1 <;> rcases List.mem_cons.mp hy with e2 | h2
    · rw [e1, e2]
    · have := h.1 y h2; rw [← e1] at this; omega
    · have := h.1 x h1; rw [← e2] at this; omega
    · exact ih h.2 x h1 y h2 e
theorem asc_uniq {l m : List Rc} (hl : l.Pairwise (fun x y => x.o < y.o)) (hm : m.Pairwise (fun x y => x.o < y.o)) (h : ∀ r, r ∈ l ↔ r ∈ m) : l = m := by
  have n1 : l.Nodup := hl.imp fun h e => by rw [e] at h; omega
  have n2 : m.Nodup := hm.imp fun h e => by rw [e] at h; omega
  have p : l.Perm m := (List.perm_ext_iff_of_nodup n1 n2).mpr h
  exact List.Perm.eq_of_pairwise (fun a b _ _ h1 h2 => by omega) hl hm p
theorem asc_app {rs : List Rc} {r : Rc} (h : rs.Pairwise (fun x y => x.o < y.o)) (hr : ∀ x ∈ rs, x.o < r.o) : (rs ++ [r]).Pairwise (fun x y => x.o < y.o) :=
  List.pairwise_append.mpr ⟨h, List.pairwise_singleton _ _, fun x hx y hy => by rw [List.mem_singleton.mp hy]; exact hr x hx⟩
section
variable {K : PySem.W.Frag} {R : Addr} {H H' : Hp}
theorem Kp.tk (k : Kp R H H') (h : ∃ xs, H R = some (.lst xs)) : TK H H' := by
  obtain ⟨xs, h⟩ := h
  exact ⟨fun a ys e => k _ _ (fun z => by rw [z, h] at e; cases e) e, fun a o ys e => k _ _ (fun z => by rw [z, h] at e; cases e) e⟩
theorem CellAt.kp {c : Addr} {cs : Cells} (k : Kp R H H') (h : ∃ xs, H R = some (.lst xs)) (a : CellAt K H c cs) : CellAt K H' c cs := by
  obtain ⟨xs, h⟩ := h
  obtain ⟨kvs, hc, pr⟩ := id a
  exact TabAt.off a (fun o e => k _ _ (fun z => by rw [z, h] at hc; cases hc) e) fun _ _ z => z
theorem SpcAt.kp {v : V} {x : Spc} (k : Kp R H H') (h : ∃ xs, H R = some (.lst xs)) (a : SpcAt K H v x) : SpcAt K H' v x := by
  obtain ⟨a, c, f, e, h1, h2, h3⟩ := a
  exact ⟨a, c, f, e, sqT_tk h1 (k.tk h), h2.kp k h, h3.tk (k.tk h)⟩
theorem SnpAt.kp {v : V} {x : Cells} (k : Kp R H H') (h : ∃ xs, H R = some (.lst xs)) (a : SnpAt K H v x) : SnpAt K H' v x := by
  obtain ⟨c, e, hc⟩ := a
  exact ⟨c, e, hc.kp k h⟩
theorem StAt.kp {a : Addr} {st : Sta} (k : Kp R H H') (h : ∃ xs, H R = some (.lst xs)) (to : ∀ p ∈ st.mr, tupO p.2.an = true ∧ tupO p.2.td = true) (s : StAt K H a st) : StAt K H' a st := by
  obtain ⟨xs, hR⟩ := id h
  obtain ⟨b1, b2, b3, ha, t1, t2, t3⟩ := s
  obtain ⟨k1, e1, _⟩ := id t1
  obtain ⟨k2, e2, _⟩ := id t2
  obtain ⟨k3, e3, p3, n3⟩ := id t3
  have ne : ∀ {b : Addr} {o : HO}, H b = some o → (∀ ys, o ≠ .lst ys) → b ≠ R := fun e n z => by rw [z, hR] at e; cases e; exact n _ rfl
  refine ⟨b1, b2, b3, k _ _ (ne ha fun _ z => nomatch z) ha, TabAt.off t1 (fun o e => k _ _ (ne e1 fun _ z => nomatch z) e) fun _ _ z => z.kp k h, TabAt.off t2 (fun o e => k _ _ (ne e2 fun _ z => nomatch z) e) fun _ _ z => z.kp k h, k3, k _ _ (ne e3 fun _ z => nomatch z) e3, pairs_mem (fun p q hq z => ⟨z.1, ?_⟩) p3, n3⟩
  have := to q hq
  exact dp_tk (k.tk h) _ _ (by simp [markD, tupO, tupOs, this.1, this.2]) z.2
end
structure LI (n : Nat) (st : Sta) : Prop where
  g : StG (3 * n) st
  srt : SrtS st
  mks : MrkS st
  num : NumS 1000 st
  mn : MrkNs ((n : Int) + 1) st
  o0 : 0 ≤ st.o
  o1 : st.o ≤ 2 * (n : Int)
theorem li_empty : LI 0 emptyS := ⟨empty_g, (fun _ h => nomatch h), (fun _ h => nomatch h), ⟨(fun _ h => nomatch h), (fun _ h => nomatch h)⟩, (fun _ h => nomatch h), by decide, by decide⟩
theorem LI.told {n : Nat} {st : Sta} (h : LI n st) (hn : n ≤ 100) (x : Int) : tupO (told4 st x) = true := (told4_txt (M := (n : Int) + 1) (by omega) h.mn).1
theorem sess_b {st : Sta} {h : Int} {b : Bd} {M : Int} (g : MrkNs M st) (hM : 1 ≤ M) : Bn (M + 1) (sessN st h b) := by
  have e : Bn M (match lookI st.mr h with | none => 1 | some m => m.s) := by
    cases e : lookI st.mr h with
    | none => show ((1 : Int).natAbs : Int) ≤ M; omega
    | some m => exact (g _ (look_mem e)).2.s
  have key : ∀ x : Int, Bn M x → Bn (M + 1) (x + (if kindS b = "mark" then 1 else 0)) := fun x hx => by
    have hx' : (x.natAbs : Int) ≤ M := hx
    show ((x + _).natAbs : Int) ≤ M + 1
    split <;> omega
  exact key _ e
theorem cnt_b {st : Sta} {h : Int} {b : Bd} {M : Int} (g : MrkNs M st) (hM : 1 ≤ M) : Bn (M + 1) (cntN st h b) := by
  have e : Bn M (match lookI st.mr h with | none => 0 | some m => m.c) := by
    cases e : lookI st.mr h with
    | none => show ((0 : Int).natAbs : Int) ≤ M; omega
    | some m => exact (g _ (look_mem e)).2.c
  have key : ∀ x : Int, Bn M x → Bn (M + 1) (if kindS b = "mark" then 0 else x + 1) := fun x hx => by
    have hx' : (x.natAbs : Int) ≤ M := hx
    split
    · show ((0 : Int).natAbs : Int) ≤ M + 1; omega
    · show ((x + 1).natAbs : Int) ≤ M + 1; omega
  exact key _ e
theorem LI.record {n : Nat} {st : Sta} {h o : Int} {b : Bd} (I : LI n st) (hn : n ≤ 100) (h0 : 0 ≤ h) (h4 : h < 4) (o0 : st.o < o) (o1 : o ≤ st.o + 2) (hb : BdN 1000 b) (hm : ∀ d, b = .mark d → d = told4 st h) : LI (n + 1) (afterR st ⟨o, h, sessN st h b, cntN st h b, b⟩) := by
  have a := I.o0; have c := I.o1
  have bo : Bn 1000 o := by show (o.natAbs : Int) ≤ 1000; omega
  have bh : Bn 1000 h := by show (h.natAbs : Int) ≤ 1000; omega
  refine ⟨I.g.record.mono (by omega), I.srt.record, I.mks.record fun d e => ?_, I.num.record bo bh hb, MrkNs.record I.mn (by omega) (by omega) bh ?_ ?_ bo hm, ?_, ?_⟩
  · rw [hm d e]; exact told4_g I.mks
  · have := sess_b (h := h) (b := b) I.mn (by omega)
    refine Int.le_trans this (by omega)
  · have := cnt_b (h := h) (b := b) I.mn (by omega)
    refine Int.le_trans this (by omega)
  · rw [law_eq]; show 0 ≤ o; omega
  · rw [law_eq]; show o ≤ _; omega
theorem LI.show {n : Nat} {st : Sta} (I : LI n st) (hn : n ≤ 60) : ShowS st := by
  have a := I.o0; have c := I.o1
  exact show_of (n := 200) (M := (n : Int) + 1) (Nat.le_refl _) (by omega) (by show (st.o.natAbs : Int) ≤ 1000; omega) (I.g.mono (by omega)) I.num I.mn I.mks
theorem LI.flat {n : Nat} {st : Sta} (I : LI n st) : ∀ p ∈ st.mr, tupO p.2.an = true ∧ tupO p.2.td = true := fun p hp => ⟨(I.mn p hp).2.an.1, (I.mn p hp).2.td.1⟩
theorem LI.mok {n : Nat} {st : Sta} (I : LI n st) : ∀ p ∈ st.mr, MrkOk p.2 := fun p hp => (I.mks p hp).ok
theorem step_good {n : Nat} {st : Sta} {h o s c : Int} {b : Bd} (I : LI n st) (hn : n ≤ 100) (hb : BdN 1000 b) (hm : ∀ d, b = .mark d → d = told4 st h) : RGood ⟨o, h, s, c, b⟩ := by
  have hk : PyData.strOk (kindS b) = true := by cases b <;> (dsimp only [kindS]; decide +kernel)
  have two : ∀ x ∈ (["write", "alone"] : List Str), PyData.strOk x = true := by decide +kernel
  have m1 := I.told hn h
  have m2 := told4_g (h := h) I.mks
  have fl : tupOs (fldD b) = true ∧ PyData.canLayAll0 (fldD b) = true ∧ PyData.depthAll (fldD b) ≤ 2 := by
    cases b with
    | mark d =>
      rw [hm d rfl]
      have := m2.2
      exact ⟨by simp [fldD, tupOs, m1], by simp [fldD, PyData.canLayAll0, m2.1], by simp only [fldD, PyData.depthAll]; omega⟩
    | preempt n v w =>
      cases w with
      | none => exact ⟨by simp [fldD, tupOs, tupO, wayD], by simp [fldD, PyData.canLayAll0, PyData.canLay0, wayD], by simp [fldD, PyData.depthAll, PyData.depth, wayD]⟩
      | some w => exact ⟨by simp [fldD, tupOs, tupO, wayD], by simp [fldD, PyData.canLayAll0, PyData.canLay0, wayD, two w (hb.2.2 w rfl)], by simp [fldD, PyData.depthAll, PyData.depth, wayD]⟩
    | reserve n w => exact ⟨by simp [fldD, tupOs, tupO], by simp [fldD, PyData.canLayAll0, PyData.canLay0, two w hb.2], by simp [fldD, PyData.depthAll, PyData.depth]⟩
    | _ => exact ⟨by simp [fldD, tupOs, tupO], by simp [fldD, PyData.canLayAll0, PyData.canLay0], by simp [fldD, PyData.depthAll, PyData.depth]⟩
  refine ⟨fl.1, ?_, ?_⟩
  · simp [recDt, PyData.canLay0, PyData.canLayAll0, hk, fl.2.1]
  · have := fl.2.2
    simp only [recDt, PyData.depth, PyData.depthAll]; omega
end Sg

set_option Elab.async false
set_option linter.all false
set_option maxRecDepth 100000
set_option maxHeartbeats 4000000
namespace Sg
open PySem PySem.Spec PyProof.Rows L2
/-! ### != of two tuples whose items are alike -/
section
variable {prog : Program} {w : World} {A : Around} {s : Shared} {E Q : Value → Shared → Prop}
theorem tup_ne {l b : Addr} {xs ys : Array Value} (hsz : xs.size = ys.size) (hl : s.heap.IsTuple l xs) (hb : s.heap.IsTuple b ys) (hu : A.units < cLine)
    (al : ∀ i (h1 : i < xs.size) (h2 : i < ys.size), SeqAt.EqP prog w A.in1 s xs[i] ys[i] true) (h : Q (.bool false) s) : wpAny (model prog w) A (compareOp .NotEq (.ref l) (.ref b)) Q E s := by
  obtain ⟨⟨c1, d1, t1, s1⟩, o1, e1, n1, e2⟩ := id hl
  obtain ⟨⟨c2, d2, t2, s2⟩, o2, e3, n2, e4⟩ := id hb
  simp only at e1 e2 e3 e4
  subst e1 e2 e3 e4
  refine wpAny_richCompare_same_room (op := .NotEq) ⟨_, o1, rfl⟩ ⟨_, o2, rfl⟩ PySem.F.slot_tuple_ne (GQ.call_here PySem.F.slot_tuple_ne ⟨_, o1, rfl⟩ PySem.F.entry_tuple_ne (PySem.F.args_tuple_ne_2 _ _) ?_) hu
  have f2 := AutoSeq1.sub_tuple_tuple
  have zl : (xs.toList.zip ys.toList).length = xs.size := by simp [hsz]
  obtain ⟨hp, g, d, tk, os⟩ := s
  wp_walk using wpAny_loadPart' o1, wpAny_loadPart' o2, wpAny_forIn_list _ (fun rest r s' => r.1 = none ∧ s' = ⟨hp, g, d, tk, os⟩ ∧ ∃ i, rest = (xs.toList.zip ys.toList).drop i ∧ i ≤ xs.size) _
  case turn =>
    rintro ⟨y, x⟩ rest r s' ⟨hr, rfl, i, hz, hi⟩
    have lt : i < (xs.toList.zip ys.toList).length := by
      refine Nat.lt_of_not_le fun z => ?_
      rw [List.drop_of_length_le z] at hz; cases hz
    have h1 : i < xs.size := zl ▸ lt
    have h2 : i < ys.size := hsz ▸ h1
    rw [List.drop_eq_getElem_cons lt] at hz
    injection hz with z1 z2
    obtain rfl : y = xs[i] := by simpa using congrArg Prod.fst z1
    obtain rfl : x = ys[i] := by simpa using congrArg Prod.snd z1
    refine wpAny_bind (al i h1 h2 _ _ ?_)
    wp_walk
    exact ⟨rfl, rfl, i + 1, z2, h1⟩
  case fin =>
    rintro ⟨b1, b2⟩ s' ⟨hb', rfl, i, hz, hi⟩
    simp only at hb'
    subst hb'
    wp_walk
    have e : Builtin.Tuple.tupleCompareSizes .NotEq xs.size ys.size = .bool false := by rw [hsz]; simp [Builtin.Tuple.tupleCompareSizes, bne]
    rw [e]; exact ⟨(fun x => nomatch x), h⟩
  case h =>
    exact ⟨rfl, rfl, 0, rfl, Nat.zero_le _⟩
end
section
variable {X : Cx}
def rNeT (K : PySem.W.Frag) : R2 := fun x y H Q => ∃ (n : Nat) (a b : Addr) (xs ys : List V), n ≤ 10 ∧ x = .ref a ∧ y = .ref b ∧ SqT K H a xs ∧ SqT K H b ys ∧ Paired (EqS K H n) xs ys ∧ Q (.bl false) H
theorem op_neT (hu : X.A.units + 80 < cLine) : OpR X (compareOp .NotEq) (rNeT X.K) := by
  intro pins s σ H x y v u Q I rx ry h
  obtain ⟨n, a, b, xs, ys, hn, rfl, rfl, ha, hb, hp, q⟩ := h
  obtain rfl : v = Value.ref a := rx
  obtain rfl : u = Value.ref b := ry
  obtain ⟨its, r, e, z⟩ := I.tuple ha
  obtain ⟨its2, r2, e2, z2⟩ := I.tuple hb
  refine tup_ne (by rw [List.size_toArray, List.size_toArray, ← r.length, ← r2.length]; exact Paired.length hp) e e2 (by omega) (fun i h1 h2 => ?_) ⟨.bl false, H, I, rfl, q⟩
  exact items_run (eqS_run I n X.A.in1 (by show X.A.units + 1 + n + 65 < cLine; omega)) hp r r2 i (by simpa using h1) (by simpa using h2)
end
end Sg

set_option Elab.async false
set_option linter.all false
set_option maxRecDepth 100000
set_option maxHeartbeats 4000000
namespace Sg
open PySem PySem.Spec PyProof.Rows L2
/-! ### reading a state -/
theorem bt_int : bootBuiltins "int" = some (.type "int") := by decide +kernel
theorem bt_bool : bootBuiltins "bool" = some (.type "bool") := by decide +kernel
theorem bt_isi : bootBuiltins "isinstance" = some (.builtin "isinstance") := by decide +kernel
theorem bt_repr : bootBuiltins "repr" = some (.builtin "repr") := by decide +kernel
theorem bt_min : bootBuiltins "min" = some (.builtin "min") := by decide +kernel
structure NV (K : PySem.W.Frag) (mg : Str → Option Value) (CN CS : Addr) : Prop where
  gN : mg "NotValid" = some (.ref CN)
  xN : PySem.W.excIn K CN [.type "ValueError", .type "Exception", .type "BaseException", .type "object"] "ValueError.__new__" = true
  kN : PySem.W.keepIn K (.ref CN) = true
  bN : PySem.W.subIn K (.ref CN) (.type "BaseException") = some true
  tN : PySem.W.typeIn K (.ref CN) = some (.type "type")
  gS : mg "SpindleError" = some (.ref CS)
  eN : PySem.W.exmOne K (.ref CN) (.ref CS) = some true
theorem ps_notValid {X : Cx} {W : WX} {p pos pos2 : Pos} {CN CS : Addr} (T : NV X.K X.mg CN CS) (hc : X.calm = true) (tk : Takes X W) (hg : Gl X "NotValid") : PS X (.Raise (some (.Call (.Name "NotValid" p) [] [] pos)) none pos2) (fun _ σ H => W (.ref CN) Option.none σ H) :=
  ps_raise hc tk (pmk_own0 PySem.F.excBase_ValueError T.xN T.gN T.kN (raises_own T.bN T.tN) hg)
structure BI (mg : Str → Option Value) : Prop where
  int : mg "int" = none
  bool : mg "bool" = none
  isi : mg "isinstance" = none
def spWhole (K : PySem.W.Frag) : Sp := fun vs H Q _ => ∃ i : Int, vs = [.int i] ∧ Q (.bl true) H
def spSpaceOf (K : PySem.W.Frag) (CN : Addr) : Sp := fun vs H Q E => ∃ (a : Addr) (st : Sta) (n : Int), vs = [.ref a, .int n] ∧ StAt K H a st ∧ (lookI st.sp n = none → E (.ref CN) none H) ∧ ∀ s v, lookI st.sp n = some s → SpcAt K H v s → Q v H
def spReadCell (K : PySem.W.Frag) (CN : Addr) : Sp := fun vs H Q E => ∃ (a : Addr) (st : Sta) (n p : Int), vs = [.ref a, .int n, .int p] ∧ StAt K H a st ∧ (lookI st.sp n = none → E (.ref CN) none H) ∧ ∀ s, lookI st.sp n = some s → Q (oV (lookI s.cs p)) H
def spReadSnap (K : PySem.W.Frag) (CN : Addr) : Sp := fun vs H Q E => ∃ (a : Addr) (st : Sta) (n m p : Int), vs = [.ref a, .int n, .int m, .int p] ∧ StAt K H a st ∧ (lookI st.sn (n, m) = none → ∀ H', Same H H' → E (.ref CN) none H') ∧ ∀ cs, lookI st.sn (n, m) = some cs → ∀ H', Same H H' → Q (oV (lookI cs p)) H'
section
variable {P : Program} {wd : World} {K : PySem.W.Frag} {mg : Str → Option Value} {base : Heap} {f fW fS CN CS : Addr} {fd fdW fdS : FuncData}
theorem scWhole : FnScope ["value"] ["value"] (defScope sWhole) := ⟨rfl, rfl, rfl, by decide +kernel, rfl, by decide +kernel, by decide +kernel⟩
theorem ok_whole (F : Fun K "is_whole" "is_whole" sWhole f fd) (B : BI mg) : FnOk P wd K mg base CX0 1 f fd ["value"] (spWhole K) := by
  refine F.ok scWhole (fun vs H Q E h => ?_) (fun cdv A outer s H vs Q E hr h => ?_)
  · obtain ⟨i, rfl, _⟩ := h
    rfl
  · obtain ⟨i, rfl, q⟩ := h
    refine ⟨_, (pss_one (ps_ret (pe_and (pe_callB call_isi (by rfl) B.isi bt_isi (pa_cons (pv 0) (pa_cons (pe_bltn (v := .ty "int") (by rfl) B.int bt_int rfl) pa_nil))) (pe_one (pe_not (pe_callB call_isi (by rfl) B.isi bt_isi (pa_cons (pv 0) (pa_cons (pe_bltn (v := .ty "bool") (by rfl) B.bool bt_bool rfl) pa_nil)))))))), ?_⟩
    refine ⟨_, rfl, _, _, _, _, true, rfl, .ty "int", .base (.int _), kit_ty (by decide +kernel), _, rfl, chooseT rfl ?_⟩
    exact ⟨_, rfl, _, _, _, _, false, rfl, .ty "bool", .base (.int _), kit_ty (by decide +kernel), _, rfl, q⟩
theorem scSpaceOf : FnScope ["state", "namespace"] ["state", "namespace"] (defScope sSpaceOf) := ⟨rfl, rfl, rfl, by decide +kernel, rfl, by decide +kernel, by decide +kernel⟩
theorem ok_spaceOf (F : Fun K "space_of" "space_of" sSpaceOf f fd) (NVx : NV K mg CN CS) (GW : Def P wd K mg base CX0 "is_whole" 1 ["value"] (spWhole K) fW fdW) : FnOk P wd K mg base (L2.CX P wd) 2 f fd ["state", "namespace"] (spSpaceOf K CN) := by
  refine F.okX scSpaceOf (fun vs H Q E h => ?_) (fun cdv A outer s H vs Q E hr h => ?_)
  · obtain ⟨a, st, n, rfl, _⟩ := h
    rfl
  · obtain ⟨a, st, n, rfl, SA, k1, k2⟩ := h
    have hr1 : Room 1 _ := hr
    refine ⟨_, (pss_cons (ps_if (PW.pt (pw_or (pt_not (pt_val (pe_call GW.ok hr1 (by rfl) GW.mg GW.kp GW.bd .nil pass0 (pa_cons (pv 1) pa_nil)))) (pw_or1 (pt_cmp (pc_dnotin (hu_of hr) (pv 1) (pe_dget (hu_of hr) (pv 0) pe_str (fun _ _ => rfl)))))))
      (pss_one (ps_notValid NVx rfl (takes_of rfl rfl rfl rfl) (by rfl))) pss_nil)
      (pss_one (ps_ret (pe_dget (hu_of hr) (pe_dget (hu_of hr) (pv 0) pe_str (fun _ _ => rfl)) (pv 1) (fun _ _ => rfl))))), ?_⟩
    obtain ⟨b1, b2, b3, ha, ⟨kvs, hk, pr, nd⟩, _⟩ := id SA
    refine ⟨_, rfl, n, rfl, _, rfl, chooseF rfl ?_⟩
    rcases pr_look (R := SpcAt K H) eI_inj (k := n) pr with ⟨l0, hz⟩ | ⟨sp, z, l0, hz, az⟩
    · refine ⟨_, rfl, _, rfl, a, .ref b1, rfl, .inl ⟨_, .inr "spaces", .inl ha, rfl, rfl⟩, b1, none, rfl, .inl ⟨_, .inl n, .inl hk, rfl, hz.symm⟩, _, rfl, chooseT rfl ?_⟩
      exact k1 l0
    · refine ⟨_, rfl, _, rfl, a, .ref b1, rfl, .inl ⟨_, .inr "spaces", .inl ha, rfl, rfl⟩, b1, some z, rfl, .inl ⟨_, .inl n, .inl hk, rfl, hz.symm⟩, _, rfl, chooseF rfl ?_⟩
      exact ⟨_, rfl, a, .ref b1, rfl, .inl ⟨_, .inr "spaces", .inl ha, rfl, rfl⟩, _, rfl, b1, z, rfl, .inl ⟨_, .inl n, .inl hk, rfl, hz.symm⟩, k2 sp z l0 az⟩
theorem cell_get {H : Hp} {c : Addr} {cs : Cells} {p : Int} {R : Prop} (h : CellAt K H c cs) (k : ∀ o : Option V, DGet H c (.int p) o → o.getD .non = oV (lookI cs p) → R) : R := by
  obtain ⟨kvs, hc, pr, nd⟩ := h
  rcases pr_look (R := fun x v => x = V.int v) eI_inj (k := p) pr with ⟨l0, hz⟩ | ⟨v, z, l0, hz, az⟩
  · exact k none (.inl ⟨_, .inl p, .inl hc, rfl, hz.symm⟩) (by rw [l0]; rfl)
  · exact k (some z) (.inl ⟨_, .inl p, .inl hc, rfl, hz.symm⟩) (by rw [l0, az]; rfl)
theorem scReadCell : FnScope ["state", "namespace", "place", "_", "cells"] ["state", "namespace", "place"] (defScope sReadCell) := ⟨rfl, rfl, rfl, by decide +kernel, rfl, by decide +kernel, by decide +kernel⟩
theorem ok_readCell (F : Fun K "read_cell" "read_cell" sReadCell f fd) (GS : Def P wd K mg base (L2.CX P wd) "space_of" 2 ["state", "namespace"] (spSpaceOf K CN) fS fdS) : FnOk P wd K mg base (L2.CX P wd) 3 f fd ["state", "namespace", "place"] (spReadCell K CN) := by
  refine F.okX scReadCell (fun vs H Q E h => ?_) (fun cdv A outer s H vs Q E hr h => ?_)
  · obtain ⟨a, st, n, p, rfl, _⟩ := h
    rfl
  · obtain ⟨a, st, n, p, rfl, SA, k1, k2⟩ := h
    have hr2 : Room 2 _ := hr
    refine ⟨_, (pss_cons (ps_asg (pe_callS GS.ok hr2 (by rfl) GS.mg GS.kp GS.bd (fun σ => passAt (takes_of rfl rfl rfl rfl) σ) (pa_cons (pv 0) (pa_cons (pv 1) pa_nil))) (pg_tup (by rfl) (pgs_cons (pg_name (i := 3) scReadCell.nd rfl (Or.inl rfl)) (pgs_cons (pg_name (i := 4) scReadCell.nd rfl (Or.inl rfl)) (pgs_cons (pg_name (i := 3) scReadCell.nd rfl (Or.inl rfl)) L2.pgs_nil)))))
      (pss_one (ps_ret (pe_dget1 (hu_of hr) (pv 4) (pv 2) ⟨rfl, rfl, rfl, rfl⟩)))), ?_⟩
    refine ⟨_, rfl, _, rfl, a, st, n, rfl, SA, k1, fun s v hs hv => ?_⟩
    obtain ⟨t, c, fv, rfl, ht, hc, _⟩ := hv
    refine ⟨t, _, rfl, ht, rfl, _, _, rfl, _, _, rfl, _, _, rfl, rfl, ?_⟩
    obtain ⟨kvs, hck, _⟩ := id hc
    refine ⟨_, rfl, c, rfl, .inl ⟨kvs, .inl hck⟩, _, rfl, ?_⟩
    exact cell_get hc fun o ho e => ⟨o, ho, by rw [e]; exact k2 s hs⟩
theorem scReadSnap : FnScope ["state", "namespace", "number", "place"] ["state", "namespace", "number", "place"] (defScope sReadSnap) := ⟨rfl, rfl, rfl, by decide +kernel, rfl, by decide +kernel, by decide +kernel⟩
theorem ok_readSnap (F : Fun K "read_snapshot" "read_snapshot" sReadSnap f fd) (NVx : NV K mg CN CS) (GW : Def P wd K mg base CX0 "is_whole" 1 ["value"] (spWhole K) fW fdW) : FnOk P wd K mg base (L2.CX P wd) 2 f fd ["state", "namespace", "number", "place"] (spReadSnap K CN) := by
  refine F.okX scReadSnap (fun vs H Q E h => ?_) (fun cdv A outer s H vs Q E hr h => ?_)
  · obtain ⟨a, st, n, m, p, rfl, _⟩ := h
    rfl
  · obtain ⟨a, st, n, m, p, rfl, SA, k1, k2⟩ := h
    have hr1 : Room 1 _ := hr
    refine ⟨_, (pss_cons (ps_if (PW.pt (pw_or (pt_not (pt_val (pe_call GW.ok hr1 (by rfl) GW.mg GW.kp GW.bd .nil pass0 (pa_cons (pv 1) pa_nil)))) (pw_or (pt_not (pt_val (pe_call GW.ok hr1 (by rfl) GW.mg GW.kp GW.bd .nil pass0 (pa_cons (pv 2) pa_nil)))) (pw_or1 (pt_cmp (pc_dnotin (hu_of hr) (pe_tup (pa_cons (pv 1) (pa_cons (pv 2) pa_nil))) (pe_dget (hu_of hr) (pv 0) pe_str (fun _ _ => rfl))))))))
      (pss_one (ps_notValid NVx rfl (takes_of rfl rfl rfl rfl) (by rfl))) pss_nil)
      (pss_one (ps_ret (pe_dget1 (hu_of hr) (pe_dget (hu_of hr) (pe_dget (hu_of hr) (pv 0) pe_str (fun _ _ => rfl)) (pe_tup (pa_cons (pv 1) (pa_cons (pv 2) pa_nil))) (fun _ _ => rfl)) (pv 3) ⟨rfl, rfl, rfl, rfl⟩)))), ?_⟩
    refine ⟨_, rfl, n, rfl, _, rfl, chooseF rfl ?_⟩
    refine ⟨_, rfl, m, rfl, _, rfl, chooseF rfl ?_⟩
    refine ⟨_, rfl, _, rfl, by show 2 ≤ sizeLine; decide, fun t ht => ?_⟩
    have s1 := same_new (o := .tup [V.int n, V.int m]) ht
    have e1 : (upd H t (.tup [V.int n, V.int m])) t = some (.tup [V.int n, V.int m]) := upd_same
    generalize upd H t (.tup [V.int n, V.int m]) = H1 at s1 e1
    obtain ⟨b1, b2, b3, ha, _, ⟨kvs, hk, pr, nd⟩, _⟩ := SA.same s1
    rcases pr_look (R := SnpAt K H1) eP_inj (k := (n, m)) pr with ⟨l0, hz⟩ | ⟨cs, z, l0, hz, az⟩
    · refine ⟨_, rfl, a, .ref b2, rfl, .inl ⟨_, .inr "snaps", .inl ha, rfl, rfl⟩, b2, none, rfl, .inr ⟨_, eP (n, m), t, .inl hk, rfl, e1, hz.symm⟩, _, rfl, chooseT rfl ?_⟩
      exact k1 l0 H1 s1
    · refine ⟨_, rfl, a, .ref b2, rfl, .inl ⟨_, .inr "snaps", .inl ha, rfl, rfl⟩, b2, some z, rfl, .inr ⟨_, eP (n, m), t, .inl hk, rfl, e1, hz.symm⟩, _, rfl, chooseF rfl ?_⟩
      refine ⟨_, rfl, a, .ref b2, rfl, .inl ⟨_, .inr "snaps", .inl ha, rfl, rfl⟩, _, rfl, _, rfl, by show 2 ≤ sizeLine; decide, fun t2 ht2 => ?_⟩
      have s2 := same_new (o := .tup [V.int n, V.int m]) ht2
      have e2 : (upd H1 t2 (.tup [V.int n, V.int m])) t2 = some (.tup [V.int n, V.int m]) := upd_same
      generalize upd H1 t2 (.tup [V.int n, V.int m]) = H2 at s2 e2
      obtain ⟨c, rfl, hc⟩ := az.same s2
      obtain ⟨kc, hkc, _⟩ := id hc
      refine ⟨b2, .ref c, rfl, .inr ⟨_, eP (n, m), t2, .inl (s2 _ _ hk), rfl, e2, hz.symm⟩, c, rfl, .inl ⟨kc, .inl hkc⟩, _, rfl, ?_⟩
      exact cell_get hc fun o ho e => ⟨o, ho, by rw [e]; exact k2 cs l0 H2 (s1.trans s2)⟩
end
end Sg

set_option Elab.async false
set_option linter.all false
set_option maxRecDepth 100000
set_option maxHeartbeats 4000000
namespace Sg
open PySem PySem.Spec PyProof.Rows L2
/-! ### the law reads a state -/
theorem u80_of {k : Nat} {A : Around} (hr : Room k A) : A.units + 80 < cLine := by have := hr.un; omega
def spLValue (K : PySem.W.Frag) : Sp := fun vs H Q _ => ∃ x y : Option Int, vs = [oV x, oV y] ∧ Q (.bl (decide (x = y))) H
def spLRefused (K : PySem.W.Frag) : Sp := fun vs H Q _ => ∃ (a : Addr) (st : Sta) (k n m : Int), vs = [.ref a, .int k, .int n, .int m] ∧ StAt K H a st ∧ ((k = 0 ∨ k = 1) ∧ lookI st.sp n = none ∨ k = 2 ∧ lookI st.sn (n, m) = none) ∧ ∀ H', Same H H' → Q (.bl true) H'
def spLReads (K : PySem.W.Frag) : Sp := fun vs H Q _ => ∃ (a w : Addr) (st : Sta) (o : Int), vs = [.ref a, .ref w, .int o] ∧ StAt K H a st ∧ StAt K H w st ∧ 0 ≤ o ∧ o ≤ 1000 ∧ ∀ H', Same H H' → Q (.bl true) H'
theorem kit_self {K : PySem.W.Frag} {C : Addr} : PySem.W.kitOne K (.ref C) (.ref C) = some true := by
  unfold PySem.W.kitOne
  rw [if_pos (by simp)]
theorem space_items {K : PySem.W.Frag} {H : Hp} {n : Nat} {x y : V} {s : Spc} (h1 : SpcAt K H x s) (h2 : SpcAt K H y s) : ∃ a b xs ys, x = .ref a ∧ y = .ref b ∧ SqT K H a xs ∧ SqT K H b ys ∧ Paired (EqS K H (n + 2)) xs ys := by
  obtain ⟨a, c, f, rfl, a1, a2, a3⟩ := h1
  obtain ⟨b, d, g, rfl, b1, b2, b3⟩ := h2
  obtain ⟨l1, l2⟩ := fence_lay (rg := s.rg) (fence_ok a3)
  exact ⟨a, b, _, _, rfl, rfl, a1, b1, .cons (eqS_data (.int _) (.int _) (by simp [PyData.canLay0]) (by simp [PyData.depth])) (.cons (cells_eq a2 b2) (.cons (eqS_data (fence_dp a3) (fence_dp b3) l1 l2) .nil))⟩
theorem isd_of {K : PySem.W.Frag} {H : Hp} {c : Addr} {cs : Cells} (h : CellAt K H c cs) : IsD H c := by
  obtain ⟨kvs, hc, _⟩ := h
  exact .inl ⟨kvs, .inl hc⟩
theorem ints_mem {l : List Int} {i : Nat} {x : V} (h : (l.map V.int)[i]? = some x) : ∃ p, x = .int p := by
  obtain ⟨p, _, e⟩ := List.mem_map.mp (List.mem_of_getElem? h)
  exact ⟨p, e.symm⟩
section
variable {P : Program} {wd : World} {K : PySem.W.Frag} {mg : Str → Option Value} {base : Heap} {f fV fS fC fN fF CN CS : Addr} {fd fdV fdS fdC fdN fdF : FuncData}
theorem scLValue : FnScope ["told", "due"] ["told", "due"] (defScope sLValue) := ⟨rfl, rfl, rfl, by decide +kernel, rfl, by decide +kernel, by decide +kernel⟩
theorem ok_lvalue (F : Fun K "_law_value" "_law_value" sLValue f fd) (B : BI mg) : FnOk P wd K mg base CX0 1 f fd ["told", "due"] (spLValue K) := by
  refine F.ok scLValue (fun vs H Q E h => ?_) (fun cdv A outer s H vs Q E hr h => ?_)
  · obtain ⟨x, y, rfl, _⟩ := h
    rfl
  · obtain ⟨x, y, rfl, q⟩ := h
    refine ⟨_, (pss_cons (ps_if (pt_cmpR op_isN (pv 1) pe_non (nomark _))
      (pss_one (ps_ret (pe_cmpR op_isN (pv 0) pe_non (nomark _)))) pss_nil)
      (pss_one (ps_ret (pe_and (pe_callB call_isi (by rfl) B.isi bt_isi (pa_cons (pv 0) (pa_cons (pe_bltn (v := .ty "int") (by rfl) B.int bt_int rfl) pa_nil))) (pe_and (pe_not (pe_callB call_isi (by rfl) B.isi bt_isi (pa_cons (pv 0) (pa_cons (pe_bltn (v := .ty "bool") (by rfl) B.bool bt_bool rfl) pa_nil)))) (pe_one (pe_cmpR op_eq (pv 0) (pv 1) (nomark _)))))))), ?_⟩
    cases y with
    | none =>
      refine ⟨_, rfl, rfl, _, rfl, chooseT rfl ?_⟩
      refine ⟨_, rfl, rfl, ?_⟩
      cases x with
      | none => exact q
      | some i => exact q
    | some j =>
      refine ⟨_, rfl, rfl, _, rfl, chooseF rfl ?_⟩
      cases x with
      | none => exact ⟨_, rfl, _, _, _, _, false, rfl, .ty "int", .base .non, kit_ty (by decide +kernel), _, rfl, chooseF rfl q⟩
      | some i =>
        refine ⟨_, rfl, _, _, _, _, true, rfl, .ty "int", .base (.int _), kit_ty (by decide +kernel), _, rfl, chooseT rfl ?_⟩
        refine ⟨_, rfl, _, _, _, _, false, rfl, .ty "bool", .base (.int _), kit_ty (by decide +kernel), _, rfl, _, rfl, chooseT rfl ?_⟩
        refine ⟨_, rfl, _, rfl, rfl, ?_⟩
        have e : decide (V.int i = V.int j) = decide ((some i : Option Int) = some j) := by
          by_cases z : i = j
          · subst z; simp
          · rw [decide_eq_false (show ¬ V.int i = V.int j from fun w => z (by injection w)), decide_eq_false (show ¬ (some i : Option Int) = some j from fun w => z (by injection w))]
        exact e ▸ q
theorem scLRefused : FnScope ["state", "kind", "namespace", "number", "error"] ["state", "kind", "namespace", "number"] (defScope sLRefused) := ⟨rfl, rfl, rfl, by decide +kernel, rfl, by decide +kernel, by decide +kernel⟩
theorem ok_lrefused (F : Fun K "_law_refused" "_law_refused" sLRefused f fd) (B : BI mg) (NVx : NV K mg CN CS) (XC : ExcC K CN) (GS : Def P wd K mg base (L2.CX P wd) "space_of" 2 ["state", "namespace"] (spSpaceOf K CN) fS fdS) (GC : Def P wd K mg base (L2.CX P wd) "read_cell" 3 ["state", "namespace", "place"] (spReadCell K CN) fC fdC)
    (GN : Def P wd K mg base (L2.CX P wd) "read_snapshot" 2 ["state", "namespace", "number", "place"] (spReadSnap K CN) fN fdN) : FnOk P wd K mg base CX0 4 f fd ["state", "kind", "namespace", "number"] (spLRefused K) := by
  refine F.ok scLRefused (fun vs H Q E h => ?_) (fun cdv A outer s H vs Q E hr h => ?_)
  · obtain ⟨a, st, k, n, m, rfl, _⟩ := h
    rfl
  · obtain ⟨a, st, k, n, m, rfl, SA, hk, q⟩ := h
    have hr2 : Room 2 _ := hr.mono (by decide)
    have hr3 : Room 3 _ := hr
    refine ⟨_, pss_cons (ps_try_as (i := 4) (Wout := fun _ _ _ _ => False)
      (tb := fun W => tIfS (tTest (tOp rEq (tVar 1) (tC (.int 0)))) (tDrop (tCallS (spSpaceOf K CN) (WE W) (tCons (tVar 0) (tCons (tVar 2) tNil)))) (tIfS (tTest (tOp rEq (tVar 1) (tC (.int 1)))) (tDrop (tCallS (spReadCell K CN) (WE W) (tCons (tVar 0) (tCons (tVar 2) (tCons (tC (.int 3)) tNil))))) (tDrop (tCallS (spReadSnap K CN) (WE W) (tCons (tVar 0) (tCons (tVar 2) (tCons (tVar 3) (tCons (tC (.int 3)) tNil))))))))
      (ts := fun a cls d => tRet (tCB (rIsX K a cls d) (tCons (tVar 4) (tCons (tC (.ref CN)) tNil)))) rfl rfl scLRefused.nd rfl rfl ⟨rfl, by decide, Or.inl NVx.gS⟩ takes0
      (fun W pn xe tk _ => pss_one (ps_if (pt_cmpR op_eq (pv 1) pe_int (nomark _)) (pss_one (ps_expr (by exact (pe_callS GS.ok hr2 (by rfl) GS.mg GS.kp GS.bd (fun σ => passAt tk σ) (by exact (pa_cons (pv 0) (pa_cons (pv 2) pa_nil)))))))
        (pss_one (ps_if (pt_cmpR op_eq (pv 1) pe_int (nomark _)) (pss_one (ps_expr (by exact (pe_callS GC.ok hr3 (by rfl) GC.mg GC.kp GC.bd (fun σ => passAt tk σ) (by exact (pa_cons (pv 0) (pa_cons (pv 2) (pa_cons pe_int pa_nil))))))))
          (pss_one (ps_expr (by exact (pe_callS GN.ok hr2 (by rfl) GN.mg GN.kp GN.bd (fun σ => passAt tk σ) (by exact (pa_cons (pv 0) (pa_cons (pv 2) (pa_cons (pv 3) (pa_cons pe_int pa_nil)))))))))))))
      (fun a oe cls d pn hz hf => pss_one (ps_ret (pe_callB (call_isX hz hf) (by rfl) B.isi bt_isi (pa_cons (pv 4) (pa_cons (pe_glob (v := .ref CN) (by rfl) NVx.gN rfl) pa_nil))))))
      (pss_one (ps_ret pe_bl)), ?_⟩
    have fin : ∀ H', Same H H' → ∀ D : Ends, D.rt = Q → wAs K (.ref CS) 4 (fun a cls d => tRet (tCB (rIsX K a cls d) (tCons (tVar 4) (tCons (tC (.ref CN)) tNil)))) (fun _ _ _ _ => False) D (.ref CN) none [some (.ref a), some (.int k), some (.int n), some (.int m), none] H' := fun H' s' D eD =>
      ⟨true, NVx.eN, fun _ a ha => ⟨_, rfl, CN, _, .ref CN, true, rfl, rfl, XC, rfl, fun u hu => hu, kit_self, by subst eD; exact q H' s'⟩, fun z => Bool.noConfusion z⟩
    rcases hk with ⟨hk, hn⟩ | ⟨hk, hn⟩
    · by_cases k0 : k = 0
      · refine ⟨_, rfl, rfl, _, rfl, chooseT (by rw [k0]; rfl) ?_⟩
        exact ⟨_, rfl, _, rfl, a, st, n, rfl, SA, fun _ => fin H (Same.refl _) _ rfl, fun s v hs => by rw [hn] at hs; cases hs⟩
      · have k1 : k = 1 := by omega
        refine ⟨_, rfl, rfl, _, rfl, chooseF (by rw [k1]; rfl) ?_⟩
        refine ⟨_, rfl, rfl, _, rfl, chooseT (by rw [k1]; rfl) ?_⟩
        exact ⟨_, rfl, _, rfl, a, st, n, 3, rfl, SA, fun _ => fin H (Same.refl _) _ rfl, fun s hs => by rw [hn] at hs; cases hs⟩
    · refine ⟨_, rfl, rfl, _, rfl, chooseF (by rw [hk]; rfl) ?_⟩
      refine ⟨_, rfl, rfl, _, rfl, chooseF (by rw [hk]; rfl) ?_⟩
      exact ⟨_, rfl, _, rfl, _, rfl, a, st, n, m, 3, rfl, SA, fun _ H' s' => fin H' s' _ rfl, fun s hs => by rw [hn] at hs; cases hs⟩
theorem scLReads : FnScope ["state", "world", "order", "namespace", "place", "due", "number", "cells"] ["state", "world", "order"] (defScope sLReads) := ⟨rfl, rfl, rfl, by decide +kernel, rfl, by decide +kernel, by decide +kernel⟩
theorem ok_lreads (F : Fun K "_law_reads" "_law_reads" sLReads f fd) (BB : BK mg) (HL : mg "list" = none) (GV : Def P wd K mg base CX0 "_law_value" 1 ["told", "due"] (spLValue K) fV fdV) (GF : Def P wd K mg base CX0 "_law_refused" 4 ["state", "kind", "namespace", "number"] (spLRefused K) fF fdF)
    (GS : Def P wd K mg base (L2.CX P wd) "space_of" 2 ["state", "namespace"] (spSpaceOf K CN) fS fdS) (GC : Def P wd K mg base (L2.CX P wd) "read_cell" 3 ["state", "namespace", "place"] (spReadCell K CN) fC fdC)
    (GN : Def P wd K mg base (L2.CX P wd) "read_snapshot" 2 ["state", "namespace", "number", "place"] (spReadSnap K CN) fN fdN) : FnOk P wd K mg base CX0 5 f fd ["state", "world", "order"] (spLReads K) := by
  refine F.ok scLReads (fun vs H Q E h => ?_) (fun cdv A outer s H vs Q E hr h => ?_)
  · obtain ⟨a, w, st, o, rfl, _⟩ := h
    rfl
  · obtain ⟨a, w, st, o, rfl, SA, SW, o0, o1, q⟩ := h
    have hr1 : Room 1 _ := hr.mono (by decide)
    have hr2 : Room 2 _ := hr.mono (by decide)
    have hr3 : Room 3 _ := hr.mono (by decide)
    have hr4 : Room 4 _ := hr
    refine ⟨_, (pss_cons (ps_for PassesOwn.never rfl (pi_range2 (by rfl) BB.range (pa_cons pe_int (pa_cons pe_int pa_nil))) (pg_name (i := 3) scLReads.nd rfl (Or.inl rfl))
      (Evl.pss_cut (ps_if (pt_cmp (pc_din (hu_of hr) (pv 3) (pe_dget (hu_of hr) (pv 1) pe_str (fun _ _ => rfl))))
      (pss_cons (ps_if (pt_cmpR (op_neT (u80_of hr)) (pe_call GS.ok hr2 (by rfl) GS.mg GS.kp GS.bd .nil passL (pa_cons (pv 0) (pa_cons (pv 3) pa_nil))) (pe_dget (hu_of hr) (pe_dget (hu_of hr) (pv 1) pe_str (fun _ _ => rfl)) (pv 3) (fun _ _ => rfl)) (nomark _))
      (pss_one (ps_ret pe_bl)) pss_nil)
      (pss_one (ps_for PassesOwn.never rfl (pi_list (pe_op op_cat (pe_listRg rfl (by rfl) HL (prg_1 (by rfl) BB.range pe_int)) (pe_lst (pa_cons pe_int (pa_cons pe_int (pa_cons pe_int (pa_cons pe_int (pa_cons pe_int (pa_cons pe_int pa_nil))))))))) (pg_name (i := 4) scLReads.nd rfl (Or.inl rfl))
      (pss_cons (ps_set (i := 5) scLReads.nd rfl (Or.inl rfl) (pe_dget2 (hu_of hr) (pe_ix ix_tup (pe_dget (hu_of hr) (pe_dget (hu_of hr) (pv 1) pe_str (fun _ _ => rfl)) (pv 3) (fun _ _ => rfl)) pe_int (fun _ _ => rfl)) (pv 4) pe_non ⟨rfl, rfl, rfl, rfl⟩))
      (pss_one (ps_if (pt_not (pt_val (pe_call GV.ok hr1 (by rfl) GV.mg GV.kp GV.bd .nil pass0 (pa_cons (pe_call GC.ok hr3 (by rfl) GC.mg GC.kp GC.bd .nil passL (pa_cons (pv 0) (pa_cons (pv 3) (pa_cons (pv 4) pa_nil)))) (pa_cons (pv 5) pa_nil)))))
      (pss_one (ps_ret pe_bl)) pss_nil)))))) (pss_one (ps_if (PW.pt (pw_or (pt_not (pt_val (pe_call GF.ok hr4 (by rfl) GF.mg GF.kp GF.bd .nil pass0 (pa_cons (pv 0) (pa_cons pe_int (pa_cons (pv 3) (pa_cons pe_int pa_nil))))))) (pw_or1 (pt_not (pt_val (pe_call GF.ok hr4 (by rfl) GF.mg GF.kp GF.bd .nil pass0 (pa_cons (pv 0) (pa_cons pe_int (pa_cons (pv 3) (pa_cons pe_int pa_nil))))))))))
      (pss_one (ps_ret pe_bl)) pss_nil)))
      (pss_one (ps_for PassesOwn.never rfl (pi_range2 (by rfl) BB.range (pa_cons pe_int (pa_cons (pe_op op_add (pv 2) pe_int) pa_nil))) (pg_name (i := 6) scLReads.nd rfl (Or.inl rfl))
      (pss_one (ps_if (pt_cmp (pc_din (hu_of hr) (pe_tup (pa_cons (pv 3) (pa_cons (pv 6) pa_nil))) (pe_dget (hu_of hr) (pv 1) pe_str (fun _ _ => rfl))))
      (pss_cons (ps_set (i := 7) scLReads.nd rfl (Or.inl rfl) (pe_dget (hu_of hr) (pe_dget (hu_of hr) (pv 1) pe_str (fun _ _ => rfl)) (pe_tup (pa_cons (pv 3) (pa_cons (pv 6) pa_nil))) (fun _ _ => rfl)))
      (pss_one (ps_for PassesOwn.never rfl (pi_list (pe_op op_cat (pe_listRg rfl (by rfl) HL (prg_1 (by rfl) BB.range pe_int)) (pe_lst (pa_cons pe_int (pa_cons pe_int pa_nil))))) (pg_name (i := 4) scLReads.nd rfl (Or.inl rfl))
      (pss_one (ps_if (pt_not (pt_val (pe_call GV.ok hr1 (by rfl) GV.mg GV.kp GV.bd .nil pass0 (pa_cons (pe_call GN.ok hr2 (by rfl) GN.mg GN.kp GN.bd .nil passL (pa_cons (pv 0) (pa_cons (pv 3) (pa_cons (pv 6) (pa_cons (pv 4) pa_nil))))) (pa_cons (pe_dget2 (hu_of hr) (pv 7) (pv 4) pe_non ⟨rfl, rfl, rfl, rfl⟩) pa_nil)))))
      (pss_one (ps_ret pe_bl)) pss_nil))))) (pss_one (ps_if (pt_not (pt_val (pe_call GF.ok hr4 (by rfl) GF.mg GF.kp GF.bd .nil pass0 (pa_cons (pv 0) (pa_cons pe_int (pa_cons (pv 3) (pa_cons (pv 6) pa_nil)))))))
      (pss_one (ps_ret pe_bl)) pss_nil))))))))
      (pss_one (ps_ret pe_bl))), ?_⟩
    refine ⟨_, _, rfl, ⟨by decide, by decide, by decide, by decide⟩, ?_⟩
    refine for_range (lo := 1) (n := 8) (fun i σ' G => ∃ x3 x4 x5 x6 x7 : Option V, σ' = [some (.ref a), some (.ref w), some (.int o), x3, x4, x5, x6, x7] ∧ Same H G) ⟨none, none, none, none, none, rfl, Same.refl _⟩ ?_ (fun σ' G ⟨x3, x4, x5, x6, x7, e, sm⟩ => by subst e; exact q G sm)
    rintro i σ' G hi ⟨x3, x4, x5, x6, x7, rfl, sm⟩
    have A1 := SA.same sm
    have W1 := SW.same sm
    refine ⟨fun σ' G' => ∃ x4 x5 x6 x7 : Option V, σ' = [some (.ref a), some (.ref w), some (.int o), some (.int (1 + (i : Int))), x4, x5, x6, x7] ∧ Same H G', ?_, ?_⟩
    · obtain ⟨b1, b2, b3, ha, ⟨kvs, hk, pr, nd⟩, _⟩ := id W1
      rcases pr_look (R := SpcAt K G) eI_inj (k := 1 + (i : Int)) pr with ⟨l0, hz⟩ | ⟨sp, z, l0, hz, az⟩
      · refine ⟨_, rfl, _, rfl, w, .ref b1, rfl, .inl ⟨_, .inr "spaces", .inl ha, rfl, rfl⟩, b1, none, rfl, .inl ⟨_, .inl (1 + (i : Int)), .inl hk, rfl, hz.symm⟩, _, rfl, chooseF rfl ?_⟩
        refine ⟨_, rfl, _, rfl, a, st, 0, 1 + (i : Int), 0, rfl, A1, .inl ⟨.inl rfl, l0⟩, fun G1 s1 => ⟨_, rfl, chooseF rfl ?_⟩⟩
        refine ⟨_, rfl, _, rfl, a, st, 1, 1 + (i : Int), 0, rfl, A1.same s1, .inl ⟨.inr rfl, l0⟩, fun G2 s2 => ⟨_, rfl, chooseF rfl ?_⟩⟩
        exact ⟨_, _, _, _, rfl, sm.trans (s1.trans s2)⟩
      · refine ⟨_, rfl, _, rfl, w, .ref b1, rfl, .inl ⟨_, .inr "spaces", .inl ha, rfl, rfl⟩, b1, some z, rfl, .inl ⟨_, .inl (1 + (i : Int)), .inl hk, rfl, hz.symm⟩, _, rfl, chooseT rfl ?_⟩
        refine ⟨_, rfl, _, rfl, a, st, 1 + (i : Int), rfl, A1, fun e => (by rw [e] at l0; cases l0), fun s v hs hv => ?_⟩
        obtain rfl : s = sp := by rw [hs] at l0; exact Option.some.inj l0
        obtain ⟨ta, tb, xs, ys, rfl, rfl, ht1, ht2, hpr⟩ := space_items (n := 0) hv az
        refine ⟨_, rfl, w, .ref b1, rfl, .inl ⟨_, .inr "spaces", .inl ha, rfl, rfl⟩, _, rfl, b1, .ref tb, rfl, .inl ⟨_, .inl (1 + (i : Int)), .inl hk, rfl, hz.symm⟩, 2, ta, tb, xs, ys, by decide, rfl, rfl, ht1, ht2, hpr, _, rfl, chooseF rfl ?_⟩
        refine ⟨10, rfl, RgOk.of_le (by decide) (by decide) (by decide) (by decide), fun q1 hq1 => ?_⟩
        have u1 := same_new (o := .lst (rgV 0 10)) hq1
        have e1 : (upd G q1 (.lst (rgV 0 10))) q1 = some (.lst (rgV 0 10)) := upd_same
        generalize upd G q1 (.lst (rgV 0 10)) = G1 at u1 e1
        refine ⟨by show 6 ≤ sizeLine; decide, fun q2 hq2 => ?_⟩
        have u2 := same_new (o := .lst [V.int 58, V.int 59, V.int 60, V.int 61, V.int 62, V.int 63]) hq2
        have e2 : (upd G1 q2 (.lst [V.int 58, V.int 59, V.int 60, V.int 61, V.int 62, V.int 63])) q2 = some (.lst [V.int 58, V.int 59, V.int 60, V.int 61, V.int 62, V.int 63]) := upd_same
        generalize upd G1 q2 (.lst [V.int 58, V.int 59, V.int 60, V.int 61, V.int 62, V.int 63]) = G2 at u2 e2
        refine ⟨q1, q2, _, _, rfl, rfl, u2 _ _ e1, e2, by show 16 ≤ sizeLine; decide, fun q3 hq3 => ?_⟩
        have u3 := same_new (o := .lst (rgV 0 10 ++ [V.int 58, V.int 59, V.int 60, V.int 61, V.int 62, V.int 63])) hq3
        have e3 : (upd G2 q3 (.lst (rgV 0 10 ++ [V.int 58, V.int 59, V.int 60, V.int 61, V.int 62, V.int 63]))) q3 = some (.lst (rgV 0 10 ++ [V.int 58, V.int 59, V.int 60, V.int 61, V.int 62, V.int 63])) := upd_same
        generalize upd G2 q3 (.lst (rgV 0 10 ++ [V.int 58, V.int 59, V.int 60, V.int 61, V.int 62, V.int 63])) = G3 at u3 e3
        have u := u1.trans (u2.trans u3)
        refine ⟨q3, rfl, ⟨_, SqL.of e3⟩, ?_⟩
        refine for_list (K := K) (a := q3) (xs := rgV 0 10 ++ [V.int 58, V.int 59, V.int 60, V.int 61, V.int 62, V.int 63]) (fun j σ' G' => ∃ x4 x5 x6 x7 : Option V, σ' = [some (.ref a), some (.ref w), some (.int o), some (.int (1 + (i : Int))), x4, x5, x6, x7] ∧ Same G3 G') ⟨x4, x5, x6, x7, rfl, Same.refl _⟩ (fun j σ' G' _ ⟨_, _, _, _, _, s'⟩ => SqL.of (s' _ _ e3)) ?_ (fun σ' G' ⟨x4, x5, x6, x7, e, s'⟩ => ⟨x4, x5, x6, x7, e, sm.trans (u.trans s')⟩)
        rintro j x σ' G4 hx ⟨x4, x5, x6, x7, rfl, s4⟩
        obtain ⟨p, rfl⟩ : ∃ p, x = .int p := by
          have hm := List.mem_of_getElem? hx
          rcases List.mem_append.mp hm with hm | hm
          · unfold rgV at hm
            obtain ⟨y, _, e⟩ := List.mem_map.mp hm
            exact ⟨_, e.symm⟩
          · simp only [List.mem_cons, List.not_mem_nil, or_false] at hm
            rcases hm with rfl | rfl | rfl | rfl | rfl | rfl <;> exact ⟨_, rfl⟩
        have su := u.trans s4
        obtain ⟨tz, cz, fz, ez, hz1, hz2, hz3⟩ := az.same su
        cases ez
        refine ⟨_, rfl, w, .ref b1, rfl, .inl ⟨_, .inr "spaces", .inl (su _ _ ha), rfl, rfl⟩, _, rfl, b1, .ref tb, rfl, .inl ⟨_, .inl (1 + (i : Int)), .inl (su _ _ hk), rfl, hz.symm⟩, tb, _, _, _, rfl, rfl, hz1, atI_nat (j := 1) rfl, cz, rfl, isd_of hz2, _, rfl, ?_⟩
        refine cell_get hz2 fun og hg eg => ⟨og, hg, ?_⟩
        rw [eg]
        refine ⟨_, rfl, _, rfl, _, rfl, a, st, 1 + (i : Int), p, rfl, A1.same su, fun e => (by rw [e] at l0; cases l0), fun s' hs' => ?_⟩
        obtain rfl : s = s' := by rw [hs'] at hs; exact (Option.some.inj hs).symm
        refine ⟨_, rfl, _, _, rfl, _, rfl, chooseF (by simp) ?_⟩
        exact ⟨_, _, _, _, rfl, s4⟩
    · rintro σ' G1 ⟨x4, x5, x6, x7, rfl, s1⟩
      have A2 := SA.same s1
      have W2 := SW.same s1
      obtain ⟨b1, b2, b3, ha, _, ⟨kvs, hk, pr, nd⟩, _⟩ := id W2
      refine ⟨_, rfl, _, _, rfl, rfl, _, _, rfl, ⟨by decide, by decide, by omega, by omega⟩, ?_⟩
      refine for_range (lo := 1) (n := (o + 2 - 1).toNat) (fun j σ' G => ∃ x4 x5 x6 x7 : Option V, σ' = [some (.ref a), some (.ref w), some (.int o), some (.int (1 + (i : Int))), x4, x5, x6, x7] ∧ Same G1 G) ⟨x4, x5, x6, x7, rfl, Same.refl _⟩ ?_ (fun σ' G' ⟨x4, x5, x6, x7, e, s'⟩ => ⟨_, x4, x5, x6, x7, e, s1.trans s'⟩)
      rintro j σ' G hj ⟨x4, x5, x6, x7, rfl, s2⟩
      refine ⟨_, rfl, _, rfl, by show 2 ≤ sizeLine; decide, fun t ht => ?_⟩
      have u1 := same_new (o := .tup [V.int (1 + (i : Int)), V.int (1 + (j : Int))]) ht
      have e1 : (upd G t (.tup [V.int (1 + (i : Int)), V.int (1 + (j : Int))])) t = some (.tup [V.int (1 + (i : Int)), V.int (1 + (j : Int))]) := upd_same
      generalize upd G t (.tup [V.int (1 + (i : Int)), V.int (1 + (j : Int))]) = G2 at u1 e1
      have su := s2.trans u1
      rcases pr_look (R := SnpAt K G1) eP_inj (k := (1 + (i : Int), 1 + (j : Int))) pr with ⟨l0, hz⟩ | ⟨cs, z, l0, hz, az⟩
      · refine ⟨_, rfl, w, .ref b2, rfl, .inl ⟨_, .inr "snaps", .inl (su _ _ ha), rfl, rfl⟩, b2, none, rfl, .inr ⟨_, eP (1 + (i : Int), 1 + (j : Int)), t, .inl (su _ _ hk), rfl, e1, hz.symm⟩, _, rfl, chooseF rfl ?_⟩
        refine ⟨_, rfl, _, rfl, _, rfl, a, st, 2, 1 + (i : Int), 1 + (j : Int), rfl, A2.same su, .inr ⟨rfl, l0⟩, fun G3 s3 => ⟨_, rfl, chooseF rfl ?_⟩⟩
        exact ⟨_, _, _, _, rfl, su.trans s3⟩
      · refine ⟨_, rfl, w, .ref b2, rfl, .inl ⟨_, .inr "snaps", .inl (su _ _ ha), rfl, rfl⟩, b2, some z, rfl, .inr ⟨_, eP (1 + (i : Int), 1 + (j : Int)), t, .inl (su _ _ hk), rfl, e1, hz.symm⟩, _, rfl, chooseT rfl ?_⟩
        refine ⟨_, rfl, w, .ref b2, rfl, .inl ⟨_, .inr "snaps", .inl (su _ _ ha), rfl, rfl⟩, _, rfl, _, rfl, by show 2 ≤ sizeLine; decide, fun t2 ht2 => ?_⟩
        have u2 := same_new (o := .tup [V.int (1 + (i : Int)), V.int (1 + (j : Int))]) ht2
        have e2 : (upd G2 t2 (.tup [V.int (1 + (i : Int)), V.int (1 + (j : Int))])) t2 = some (.tup [V.int (1 + (i : Int)), V.int (1 + (j : Int))]) := upd_same
        generalize upd G2 t2 (.tup [V.int (1 + (i : Int)), V.int (1 + (j : Int))]) = G3 at u2 e2
        have su2 := su.trans u2
        obtain ⟨cz, rfl, hcz⟩ := az.same su2
        refine ⟨b2, .ref cz, rfl, .inr ⟨_, eP (1 + (i : Int), 1 + (j : Int)), t2, .inl (su2 _ _ hk), rfl, e2, hz.symm⟩, ?_⟩
        refine ⟨10, rfl, RgOk.of_le (by decide) (by decide) (by decide) (by decide), fun q1 hq1 => ?_⟩
        have v1 := same_new (o := .lst (rgV 0 10)) hq1
        have f1 : (upd G3 q1 (.lst (rgV 0 10))) q1 = some (.lst (rgV 0 10)) := upd_same
        generalize upd G3 q1 (.lst (rgV 0 10)) = G4 at v1 f1
        refine ⟨by show 2 ≤ sizeLine; decide, fun q2 hq2 => ?_⟩
        have v2 := same_new (o := .lst [V.int 58, V.int 63]) hq2
        have f2 : (upd G4 q2 (.lst [V.int 58, V.int 63])) q2 = some (.lst [V.int 58, V.int 63]) := upd_same
        generalize upd G4 q2 (.lst [V.int 58, V.int 63]) = G5 at v2 f2
        refine ⟨q1, q2, _, _, rfl, rfl, v2 _ _ f1, f2, by show 12 ≤ sizeLine; decide, fun q3 hq3 => ?_⟩
        have v3 := same_new (o := .lst (rgV 0 10 ++ [V.int 58, V.int 63])) hq3
        have f3 : (upd G5 q3 (.lst (rgV 0 10 ++ [V.int 58, V.int 63]))) q3 = some (.lst (rgV 0 10 ++ [V.int 58, V.int 63])) := upd_same
        generalize upd G5 q3 (.lst (rgV 0 10 ++ [V.int 58, V.int 63])) = G6 at v3 f3
        have v := v1.trans (v2.trans v3)
        refine ⟨q3, rfl, ⟨_, SqL.of f3⟩, ?_⟩
        refine for_list (K := K) (a := q3) (xs := rgV 0 10 ++ [V.int 58, V.int 63]) (fun jj σ' G' => ∃ x4 x5 : Option V, σ' = [some (.ref a), some (.ref w), some (.int o), some (.int (1 + (i : Int))), x4, x5, some (.int (1 + (j : Int))), some (.ref cz)] ∧ Same G6 G') ⟨x4, x5, rfl, Same.refl _⟩ (fun jj σ' G' _ ⟨_, _, _, s'⟩ => SqL.of (s' _ _ f3)) ?_ (fun σ' G' ⟨x4, x5, e, s'⟩ => ⟨x4, x5, _, _, e, su2.trans (v.trans s')⟩)
        rintro jj x σ' G7 hx ⟨x4, x5, rfl, s7⟩
        obtain ⟨p, rfl⟩ : ∃ p, x = .int p := by
          have hm := List.mem_of_getElem? hx
          rcases List.mem_append.mp hm with hm | hm
          · unfold rgV at hm
            obtain ⟨y, _, e⟩ := List.mem_map.mp hm
            exact ⟨_, e.symm⟩
          · simp only [List.mem_cons, List.not_mem_nil, or_false] at hm
            rcases hm with rfl | rfl <;> exact ⟨_, rfl⟩
        have sv := v.trans s7
        refine ⟨_, rfl, _, rfl, _, rfl, _, rfl, a, st, 1 + (i : Int), 1 + (j : Int), p, rfl, A2.same (su2.trans sv), fun e => (by rw [e] at l0; cases l0), fun cs' hcs G8 s8 => ?_⟩
        obtain rfl : cs = cs' := by rw [hcs] at l0; exact (Option.some.inj l0).symm
        have hc8 := hcz.same (sv.trans s8)
        refine ⟨_, rfl, cz, rfl, isd_of hc8, _, rfl, ?_⟩
        refine cell_get hc8 fun og hg eg => ⟨og, hg, ?_⟩
        rw [eg]
        refine ⟨_, _, rfl, _, rfl, chooseF (by simp) ?_⟩
        exact ⟨_, _, rfl, s7.trans s8⟩
end
end Sg

set_option Elab.async false
set_option linter.all false
set_option maxRecDepth 100000
set_option maxHeartbeats 4000000
namespace Sg
open PySem PySem.Spec PyProof.Rows L2
/-! ### the law -/
def spLaw (K : PySem.W.Frag) : Sp := fun vs H Q _ => ∃ (a : Addr) (ns : List Int), vs = [.ref a] ∧ SqL K H a (ns.map V.int) ∧ ns.length ≤ 63 ∧ ∀ H', Q (.bl true) H'
theorem StepAt.same {K : PySem.W.Frag} {H H' : Hp} {p : Addr} {r : Rc} (h : StepAt K H p r) (s : Same H H') : StepAt K H' p r := by
  obtain ⟨fl, ys, a, b, c⟩ := h
  exact ⟨fl, ys, SqT_same s a, SqT_same s b, dpAll_same s _ _ c⟩
theorem nilr {σ : L2.St} {H : Hp} {Q : List V → Hp → Prop} (h : Q [] H) : tNil σ H Q := h
theorem repr_te {K : PySem.W.Frag} {H : Hp} {a : Addr} {st : Sta} {Q : VK} {tx : Str} (h : StAt K H a st) (sh : ShowS st) (e : (stateD st).shown = tx) (q : Q (.str tx) H) : rRepr K [.ref a] H Q := ⟨a, st, rfl, h, sh, by rw [e]; exact q⟩
section
variable {P : Program} {wd : World} {K : PySem.W.Frag} {mg : Str → Option Value} {base : Heap} {f fW fN fM fC fZ fA fR fF fO : Addr} {fd fdW fdN fdM fdC fdZ fdA fdR fdF fdO : FuncData}
theorem scLaw : FnScope ["script", "world", "state", "order", "k", "step", "before"] ["script"] (defScope sLaw) := ⟨rfl, rfl, rfl, by decide +kernel, rfl, by decide +kernel, by decide +kernel⟩
theorem ok_law (F : Fun K "law" "law" sLaw f fd) (B : BK mg) (GW : Def P wd K mg base CX0 "_law_start" 1 [] (spNewState K) fW fdW) (GN : Def P wd K mg base CX0 "new_state" 1 [] (spNewState K) fN fdN) (GM : Def P wd K mg base CX0 "_law_many" 1 ["script", "few", "many"] (spMany K) fM fdM) (GC : Def P wd K mg base CX0 "_law_cell" 1 ["script", "k"] (spCell K) fC fdC) (GZ : Def P wd K mg base CX0 "_law_step" 2 ["cell", "world", "many"] (spLStep K) fZ fdZ) (GA : Def P wd K mg base CX0 "apply_record" 6 ["state", "record"] (spApply K) fA fdA) (GR : Def P wd K mg base CX0 "_law_record" 1 ["order", "step"] (spLRecord K) fR fdR) (GF : Def P wd K mg base CX0 "_law_after" 4 ["world", "order", "step"] (spLAfter K) fF fdF) (GO : Def P wd K mg base CX0 "_law_reads" 5 ["state", "world", "order"] (spLReads K) fO fdO) : LawG P wd K mg base 8 f fd ["script"] (spLaw K) := by
  refine lawG_of F scLaw (fun vs H Q E h => ?_) (fun cdv A outer s H vs Q E hg hr h => ?_)
  · obtain ⟨a, ns, rfl, _⟩ := h
    rfl
  · obtain ⟨sc, ns, rfl, hsc, hn, q⟩ := h
    have hr1 : Room 1 _ := hr.mono (by decide)
    have hr2 : Room 2 _ := hr.mono (by decide)
    have hr4 : Room 4 _ := hr.mono (by decide)
    have hr5 : Room 5 _ := hr.mono (by decide)
    have hr6 : Room 6 _ := hr.mono (by decide)
    refine ⟨_, (pss_cons (ps_set (i := 1) scLaw.nd rfl (Or.inl rfl) (pe_call0 GW.ok hr1 (by rfl) GW.mg GW.kp GW.bd .nil pass0))
      (pss_cons (ps_set (i := 2) scLaw.nd rfl (Or.inl rfl) (pe_call0 GN.ok hr1 (by rfl) GN.mg GN.kp GN.bd .nil pass0))
      (pss_cons (ps_set (i := 3) scLaw.nd rfl (Or.inl rfl) pe_int)
      (pss_cons (ps_for PassesOwn.never rfl (pi_range1 (by rfl) B.range (pa_cons (pe_callB (call_min2 rfl) (by rfl) B.min bt_min (pa_cons (pe_callB call_len_seq (by rfl) B.len PySem.boot_len (pa_cons (pv 0) pa_nil)) (pa_cons (pe_call GM.ok hr1 (by rfl) GM.mg GM.kp GM.bd .nil pass0 (pa_cons (pv 0) (pa_cons pe_int (pa_cons pe_int pa_nil)))) pa_nil))) pa_nil)) (pg_name (i := 4) scLaw.nd rfl (Or.inl rfl))
      (pss_cons (ps_set (i := 3) scLaw.nd rfl (Or.inl rfl) (pe_op op_add (pv 3) pe_int))
      (pss_cons (ps_set (i := 5) scLaw.nd rfl (Or.inl rfl) (pe_call GZ.ok hr2 (by rfl) GZ.mg GZ.kp GZ.bd .nil pass0 (pa_cons (pe_op op_add (pe_call GC.ok hr1 (by rfl) GC.mg GC.kp GC.bd .nil pass0 (pa_cons (pv 0) (pa_cons (pv 4) pa_nil))) (pe_op op_mul pe_int (pv 4))) (pa_cons (pv 1) (pa_cons pe_int pa_nil)))))
      (pss_cons (ps_set (i := 1) scLaw.nd rfl (Or.inl rfl) (pe_call GF.ok hr4 (by rfl) GF.mg GF.kp GF.bd .nil pass0 (pa_cons (pv 1) (pa_cons (pv 3) (pa_cons (pv 5) pa_nil)))))
      (pss_one (ps_set (i := 2) scLaw.nd rfl (Or.inl rfl) (pe_call GA.ok hr6 (by rfl) GA.mg GA.kp GA.bd .nil pass0 (pa_cons (pv 2) (pa_cons (pe_call GR.ok hr1 (by rfl) GR.mg GR.kp GR.bd .nil pass0 (pa_cons (pv 3) (pa_cons (pv 5) pa_nil))) pa_nil)))))))))
      (pss_cons (ps_set (i := 6) scLaw.nd rfl (Or.inl rfl) (pe_callB (cr_repr hg (u64_of hr)) (by rfl) B.repr bt_repr (pa_cons (pv 2) pa_nil)))
      (pss_one (ps_ret (pe_and (pe_call GO.ok hr5 (by rfl) GO.mg GO.kp GO.bd .nil pass0 (pa_cons (pv 2) (pa_cons (pv 1) (pa_cons (pv 3) pa_nil)))) (pe_one (pe_cmpR op_eq (pe_callB (cr_repr hg (u64_of hr)) (by rfl) B.repr bt_repr (pa_cons (pv 2) pa_nil)) (pv 6) (nomark _))))))))))), ?_⟩
    refine ⟨rfl, fun w H1 s1 W1 => ?_⟩
    refine ⟨rfl, fun a H2 s2 A2 => ?_⟩
    have W2 := W1.same s2
    have hs2 := (s1.trans s2).seq hsc
    clear W1 s1 s2 hsc
    refine ⟨_, rfl, sc, _, rfl, .inl hs2, _, rfl, sc, ns, 12, 30, rfl, hs2, fun m hm => ⟨_, _, rfl, ?_⟩⟩
    have hm40 : m ≤ 40 := by omega
    have hl : (ns.map V.int).length = ns.length := List.length_map _
    obtain ⟨cnt, hc, hcl⟩ : ∃ c : Int, (if m < (((ns.map V.int).length : Nat) : Int) then m else (((ns.map V.int).length : Nat) : Int)) = c ∧ c ≤ 40 ∧ -100 ≤ c := by
      refine ⟨_, rfl, ?_⟩
      split <;> omega
    rw [hc]
    refine ⟨cnt, rfl, by omega, by omega, ?_⟩
    refine for_range (lo := 0) (n := cnt.toNat) (fun i σ' G => ∃ (v4 v5 v6 : Option V) (w a : Addr) (st : Sta), σ' = [some (.ref sc), some (.ref w), some (.ref a), some (.int st.o), v4, v5, v6] ∧ Same H2 G ∧ StAt K G w st ∧ StAt K G a st ∧ LI i st)
      ⟨none, none, none, w, a, emptyS, rfl, Same.refl _, W2, A2, li_empty⟩ ?_ ?_
    · rintro i σ' G hi ⟨v4, v5, v6, w, a, st, rfl, sm, W, A, I⟩
      have i40 : i ≤ 40 := by omega
      have o0 := I.o0
      have o1 := I.o1
      refine ⟨_, rfl, _, _, rfl, rfl, ?_⟩
      refine ⟨_, rfl, _, rfl, sc, ns, i, (show [V.ref sc, V.int (0 + (i : Int))] = [V.ref sc, V.int (i : Int)] by rw [Int.zero_add]), sm.seq hs2, ?_⟩
      generalize ns.getD i 0 = cl
      refine ⟨_, rfl, _, _, rfl, rfl, .inl ⟨by decide, by decide⟩, _, _, rfl, rfl, _, rfl, _, w, st, 8, rfl, W, I.g.mono (by omega), I.num, I.told (by omega), by decide, by decide, fun v G2 t2 hv => ?_⟩
      obtain ⟨stp, h, b, rfl, h0, h4, bn, bm, hst⟩ := hv
      have bk := bd_ok bn
      have I' : LI (i + 1) (afterR st ⟨st.o + 1, h, sessN st h b, cntN st h b, b⟩) := I.record (by omega) h0 h4 (by omega) (by omega) bn bm
      refine ⟨_, rfl, _, rfl, _, rfl, w, stp, st, ⟨st.o + 1, h, sessN st h b, cntN st h b, b⟩, rfl, W.same t2, I.g.mono (by omega), I.srt, hst (st.o + 1), bk, fun D2 G3 t3 hD2 => ?_⟩
      rw [← law_eq] at hD2
      refine ⟨_, rfl, _, rfl, _, rfl, stp, ⟨st.o + 1, h, sessN st h b, cntN st h b, b⟩, rfl, StepAt.same (hst (st.o + 1)) t3, fun t G4 t4 hrec => ⟨a, t, st, _, rfl, A.same (t2.trans (t3.trans t4)), I.g.mono (by omega), hrec, bk, fun D G5 t5 hD => ?_⟩⟩
      have eo : (afterR st ⟨st.o + 1, h, sessN st h b, cntN st h b, b⟩).o = st.o + 1 := by rw [law_eq]; rfl
      exact ⟨_, _, _, D2, D, afterR st ⟨st.o + 1, h, sessN st h b, cntN st h b, b⟩, by rw [eo]; rfl, sm.trans (t2.trans (t3.trans (t4.trans t5))), hD2.same (t4.trans t5), hD, I'⟩
    · rintro σ' G ⟨v4, v5, v6, w, a, st, rfl, sm, W, A, I⟩
      have o0 := I.o0
      have o1 := I.o1
      have SH := I.show (by omega)
      obtain ⟨tx, htx⟩ : ∃ tx, (stateD st).shown = tx := ⟨_, rfl⟩
      refine ⟨_, rfl, nilr (repr_te A SH htx ?_)⟩
      refine ⟨_, rfl, _, rfl, _, rfl, a, w, st, st.o, rfl, A, W, o0, by omega, fun G1 s1 => ⟨_, rfl, chooseT rfl ?_⟩⟩
      refine ⟨_, rfl, nilr (repr_te (A.same s1) SH htx ⟨_, rfl, rfl, ?_⟩)⟩
      rw [str_eqT]
      exact q _
end
end Sg

set_option Elab.async false
set_option linter.all false
set_option maxRecDepth 100000
set_option maxHeartbeats 8000000
namespace Sg
open PySem PySem.Spec PyProof.Rows L2
theorem all_mk {l : PySem.W.OpenLaw} {w : World} {K : PySem.W.Frag} {h : Heap} {mg : Str → Option Value} {fa CN CS fWK fWO fWH fFi fAn fEf fEk fNs fAp fAe fAw fWs fWe fCh fWh fSo fRc fRs fLC fLD fLM fLN fLU fLW fLS fLK fLP fLA fLR fLT fLZ fLJ fLQ fLF fLV fLH fL aNE aNF : Addr} (X : K.In h) (G : h.Ns mainGlobals mg) (hfa : mg "law" = some (.ref fa))
    {odWK anWK odWO anWO odWH anWH odFi anFi odAn anAn odEf anEf odEk anEk odNs anNs odAp anAp odAe anAe odAw anAw odWs anWs odWe anWe odCh anCh odWh anWh odSo anSo odRc anRc odRs anRs odLC anLC odLD anLD odLM anLM odLN anLN odLU anLU odLW anLW odLS anLS odLK anLK odLP anLP odLA anLA odLR anLR odLT anLT odLZ anLZ odLJ anLJ odLQ anLQ odLF anLF odLV anLV odLH anLH odL anL dNF dNE : Option Addr} {slWK slWO slWH slFi slAn slEf slEk slNs slAp slAe slAw slWs slWe slCh slWh slSo slRc slRs slLC slLD slLM slLN slLU slLW slLS slLK slLP slLA slLR slLT slLZ slLJ slLQ slLF slLV slLH slL sNF sNE : Array (Option Value)} {ocWK kVWK dcWK pmWK cdWK ctWK ocWO kVWO dcWO pmWO cdWO ctWO ocWH kVWH dcWH pmWH cdWH ctWH ocFi kVFi dcFi pmFi cdFi ctFi ocAn kVAn dcAn pmAn cdAn ctAn ocEf kVEf dcEf pmEf cdEf ctEf ocEk kVEk dcEk pmEk cdEk ctEk ocNs kVNs dcNs pmNs cdNs ctNs ocAp kVAp dcAp pmAp cdAp ctAp ocAe kVAe dcAe pmAe cdAe ctAe ocAw kVAw dcAw pmAw cdAw ctAw ocWs kVWs dcWs pmWs cdWs ctWs ocWe kVWe dcWe pmWe cdWe ctWe ocCh kVCh dcCh pmCh cdCh ctCh ocWh kVWh dcWh pmWh cdWh ctWh ocSo kVSo dcSo pmSo cdSo ctSo ocRc kVRc dcRc pmRc cdRc ctRc ocRs kVRs dcRs pmRs cdRs ctRs ocLC kVLC dcLC pmLC cdLC ctLC ocLD kVLD dcLD pmLD cdLD ctLD ocLM kVLM dcLM pmLM cdLM ctLM ocLN kVLN dcLN pmLN cdLN ctLN ocLU kVLU dcLU pmLU cdLU ctLU ocLW kVLW dcLW pmLW cdLW ctLW ocLS kVLS dcLS pmLS cdLS ctLS ocLK kVLK dcLK pmLK cdLK ctLK ocLP kVLP dcLP pmLP cdLP ctLP ocLA kVLA dcLA pmLA cdLA ctLA ocLR kVLR dcLR pmLR cdLR ctLR ocLT kVLT dcLT pmLT cdLT ctLT ocLZ kVLZ dcLZ pmLZ cdLZ ctLZ ocLJ kVLJ dcLJ pmLJ cdLJ ctLJ ocLQ kVLQ dcLQ pmLQ cdLQ ctLQ ocLF kVLF dcLF pmLF cdLF ctLF ocLV kVLV dcLV pmLV cdLV ctLV ocLH kVLH dcLH pmLH cdLH ctLH ocL kVL dcL pmL cdL ctL : Value} {tHEAD : Tok} {nNF nNE : Nat} 
    (aN_ : PySem.W.nsIn K mainGlobals "NotValid" = some (some (.ref CN)))
    (aS_ : PySem.W.nsIn K mainGlobals "SpindleError" = some (some (.ref CS)))
    (xNe : PySem.W.excIn K CN [.type "ValueError", .type "Exception", .type "BaseException", .type "object"] "ValueError.__new__" = true)
    (kNe : PySem.W.keepIn K (.ref CN) = true)
    (bNe : PySem.W.subIn K (.ref CN) (.type "BaseException") = some true)
    (tNe : PySem.W.typeIn K (.ref CN) = some (.type "type"))
    (sNe : PySem.W.subIn K (.ref CN) (.ref CS) = some true)
    (iSe : PySem.W.isClsIn K CS = true)
    (bSe : PySem.W.subIn K (.ref CS) (.type "BaseException") = some true)
    (tSe : PySem.W.typeIn K (.ref CS) = some (.type "type"))
    (aWK : PySem.W.nsIn K mainGlobals "with_key" = some (some (.ref fWK)))
    (lWK : K.lookup fWK = some ⟨ocWK, odWK, .func (PySem.W.fnOf "with_key" "with_key" (defArgs sWithKey) (defBody sWithKey) (defScope sWithKey) .none kVWK dcWK pmWK anWK cdWK ctWK), slWK⟩)
    (cWK : PySem.W.codeIn K cdWK "with_key" = true)
    (kWK : PySem.W.keepIn K (.ref fWK) = true)
    (aWO : PySem.W.nsIn K mainGlobals "without_key" = some (some (.ref fWO)))
    (lWO : K.lookup fWO = some ⟨ocWO, odWO, .func (PySem.W.fnOf "without_key" "without_key" (defArgs sWithoutKey) (defBody sWithoutKey) (defScope sWithoutKey) .none kVWO dcWO pmWO anWO cdWO ctWO), slWO⟩)
    (cWO : PySem.W.codeIn K cdWO "without_key" = true)
    (kWO : PySem.W.keepIn K (.ref fWO) = true)
    (aWH : PySem.W.nsIn K mainGlobals "with_holder" = some (some (.ref fWH)))
    (lWH : K.lookup fWH = some ⟨ocWH, odWH, .func (PySem.W.fnOf "with_holder" "with_holder" (defArgs sWithHolder) (defBody sWithHolder) (defScope sWithHolder) .none kVWH dcWH pmWH anWH cdWH ctWH), slWH⟩)
    (cWH : PySem.W.codeIn K cdWH "with_holder" = true)
    (kWH : PySem.W.keepIn K (.ref fWH) = true)
    (aFi : PySem.W.nsIn K mainGlobals "fields_of" = some (some (.ref fFi)))
    (lFi : K.lookup fFi = some ⟨ocFi, odFi, .func (PySem.W.fnOf "fields_of" "fields_of" (defArgs sFieldsOf) (defBody sFieldsOf) (defScope sFieldsOf) .none kVFi dcFi pmFi anFi cdFi ctFi), slFi⟩)
    (cFi : PySem.W.codeIn K cdFi "fields_of" = true)
    (kFi : PySem.W.keepIn K (.ref fFi) = true)
    (aAn : PySem.W.nsIn K mainGlobals "answer_of" = some (some (.ref fAn)))
    (lAn : K.lookup fAn = some ⟨ocAn, odAn, .func (PySem.W.fnOf "answer_of" "answer_of" (defArgs sAnswerOf) (defBody sAnswerOf) (defScope sAnswerOf) .none kVAn dcAn pmAn anAn cdAn ctAn), slAn⟩)
    (cAn : PySem.W.codeIn K cdAn "answer_of" = true)
    (kAn : PySem.W.keepIn K (.ref fAn) = true)
    (aEf : PySem.W.nsIn K mainGlobals "effects" = some (some (.ref fEf)))
    (lEf : K.lookup fEf = some ⟨ocEf, odEf, .func (PySem.W.fnOf "effects" "effects" (defArgs sEffects) (defBody sEffects) (defScope sEffects) .none kVEf dcEf pmEf anEf cdEf ctEf), slEf⟩)
    (cEf : PySem.W.codeIn K cdEf "effects" = true)
    (kEf : PySem.W.keepIn K (.ref fEf) = true)
    (aEk : PySem.W.nsIn K mainGlobals "_effects_of_kind" = some (some (.ref fEk)))
    (lEk : K.lookup fEk = some ⟨ocEk, odEk, .func (PySem.W.fnOf "_effects_of_kind" "_effects_of_kind" (defArgs sEffKind) (defBody sEffKind) (defScope sEffKind) .none kVEk dcEk pmEk anEk cdEk ctEk), slEk⟩)
    (cEk : PySem.W.codeIn K cdEk "_effects_of_kind" = true)
    (kEk : PySem.W.keepIn K (.ref fEk) = true)
    (aNs : PySem.W.nsIn K mainGlobals "new_state" = some (some (.ref fNs)))
    (lNs : K.lookup fNs = some ⟨ocNs, odNs, .func (PySem.W.fnOf "new_state" "new_state" (defArgs sNewState) (defBody sNewState) (defScope sNewState) .none kVNs dcNs pmNs anNs cdNs ctNs), slNs⟩)
    (cNs : PySem.W.codeIn K cdNs "new_state" = true)
    (kNs : PySem.W.keepIn K (.ref fNs) = true)
    (aAp : PySem.W.nsIn K mainGlobals "apply_record" = some (some (.ref fAp)))
    (lAp : K.lookup fAp = some ⟨ocAp, odAp, .func (PySem.W.fnOf "apply_record" "apply_record" (defArgs sApply) (defBody sApply) (defScope sApply) .none kVAp dcAp pmAp anAp cdAp ctAp), slAp⟩)
    (cAp : PySem.W.codeIn K cdAp "apply_record" = true)
    (kAp : PySem.W.keepIn K (.ref fAp) = true)
    (aAe : PySem.W.nsIn K mainGlobals "_after_effect" = some (some (.ref fAe)))
    (lAe : K.lookup fAe = some ⟨ocAe, odAe, .func (PySem.W.fnOf "_after_effect" "_after_effect" (defArgs sAfterEff) (defBody sAfterEff) (defScope sAfterEff) .none kVAe dcAe pmAe anAe cdAe ctAe), slAe⟩)
    (cAe : PySem.W.codeIn K cdAe "_after_effect" = true)
    (kAe : PySem.W.keepIn K (.ref fAe) = true)
    (aAw : PySem.W.nsIn K mainGlobals "_after_effect_within" = some (some (.ref fAw)))
    (lAw : K.lookup fAw = some ⟨ocAw, odAw, .func (PySem.W.fnOf "_after_effect_within" "_after_effect_within" (defArgs sAfterWithin) (defBody sAfterWithin) (defScope sAfterWithin) .none kVAw dcAw pmAw anAw cdAw ctAw), slAw⟩)
    (cAw : PySem.W.codeIn K cdAw "_after_effect_within" = true)
    (kAw : PySem.W.keepIn K (.ref fAw) = true)
    (aWs : PySem.W.nsIn K mainGlobals "_without_space" = some (some (.ref fWs)))
    (lWs : K.lookup fWs = some ⟨ocWs, odWs, .func (PySem.W.fnOf "_without_space" "_without_space" (defArgs sWithoutSpace) (defBody sWithoutSpace) (defScope sWithoutSpace) .none kVWs dcWs pmWs anWs cdWs ctWs), slWs⟩)
    (cWs : PySem.W.codeIn K cdWs "_without_space" = true)
    (kWs : PySem.W.keepIn K (.ref fWs) = true)
    (aWe : PySem.W.nsIn K mainGlobals "_with_entry" = some (some (.ref fWe)))
    (lWe : K.lookup fWe = some ⟨ocWe, odWe, .func (PySem.W.fnOf "_with_entry" "_with_entry" (defArgs sWithEntry) (defBody sWithEntry) (defScope sWithEntry) .none kVWe dcWe pmWe anWe cdWe ctWe), slWe⟩)
    (cWe : PySem.W.codeIn K cdWe "_with_entry" = true)
    (kWe : PySem.W.keepIn K (.ref fWe) = true)
    (aCh : PySem.W.nsIn K mainGlobals "_changed" = some (some (.ref fCh)))
    (lCh : K.lookup fCh = some ⟨ocCh, odCh, .func (PySem.W.fnOf "_changed" "_changed" (defArgs sChanged) (defBody sChanged) (defScope sChanged) .none kVCh dcCh pmCh anCh cdCh ctCh), slCh⟩)
    (cCh : PySem.W.codeIn K cdCh "_changed" = true)
    (kCh : PySem.W.keepIn K (.ref fCh) = true)
    (aWh : PySem.W.nsIn K mainGlobals "is_whole" = some (some (.ref fWh)))
    (lWh : K.lookup fWh = some ⟨ocWh, odWh, .func (PySem.W.fnOf "is_whole" "is_whole" (defArgs sWhole) (defBody sWhole) (defScope sWhole) .none kVWh dcWh pmWh anWh cdWh ctWh), slWh⟩)
    (cWh : PySem.W.codeIn K cdWh "is_whole" = true)
    (kWh : PySem.W.keepIn K (.ref fWh) = true)
    (aSo : PySem.W.nsIn K mainGlobals "space_of" = some (some (.ref fSo)))
    (lSo : K.lookup fSo = some ⟨ocSo, odSo, .func (PySem.W.fnOf "space_of" "space_of" (defArgs sSpaceOf) (defBody sSpaceOf) (defScope sSpaceOf) .none kVSo dcSo pmSo anSo cdSo ctSo), slSo⟩)
    (cSo : PySem.W.codeIn K cdSo "space_of" = true)
    (kSo : PySem.W.keepIn K (.ref fSo) = true)
    (aRc : PySem.W.nsIn K mainGlobals "read_cell" = some (some (.ref fRc)))
    (lRc : K.lookup fRc = some ⟨ocRc, odRc, .func (PySem.W.fnOf "read_cell" "read_cell" (defArgs sReadCell) (defBody sReadCell) (defScope sReadCell) .none kVRc dcRc pmRc anRc cdRc ctRc), slRc⟩)
    (cRc : PySem.W.codeIn K cdRc "read_cell" = true)
    (kRc : PySem.W.keepIn K (.ref fRc) = true)
    (aRs : PySem.W.nsIn K mainGlobals "read_snapshot" = some (some (.ref fRs)))
    (lRs : K.lookup fRs = some ⟨ocRs, odRs, .func (PySem.W.fnOf "read_snapshot" "read_snapshot" (defArgs sReadSnap) (defBody sReadSnap) (defScope sReadSnap) .none kVRs dcRs pmRs anRs cdRs ctRs), slRs⟩)
    (cRs : PySem.W.codeIn K cdRs "read_snapshot" = true)
    (kRs : PySem.W.keepIn K (.ref fRs) = true)
    (aLC : PySem.W.nsIn K mainGlobals "_law_cell" = some (some (.ref fLC)))
    (lLC : K.lookup fLC = some ⟨ocLC, odLC, .func (PySem.W.fnOf "_law_cell" "_law_cell" (defArgs sLCell) (defBody sLCell) (defScope sLCell) .none kVLC dcLC pmLC anLC cdLC ctLC), slLC⟩)
    (cLC : PySem.W.codeIn K cdLC "_law_cell" = true)
    (kLC : PySem.W.keepIn K (.ref fLC) = true)
    (aLD : PySem.W.nsIn K mainGlobals "_law_digits" = some (some (.ref fLD)))
    (lLD : K.lookup fLD = some ⟨ocLD, odLD, .func (PySem.W.fnOf "_law_digits" "_law_digits" (defArgs sLDigits) (defBody sLDigits) (defScope sLDigits) .none kVLD dcLD pmLD anLD cdLD ctLD), slLD⟩)
    (cLD : PySem.W.codeIn K cdLD "_law_digits" = true)
    (kLD : PySem.W.keepIn K (.ref fLD) = true)
    (aLM : PySem.W.nsIn K mainGlobals "_law_many" = some (some (.ref fLM)))
    (lLM : K.lookup fLM = some ⟨ocLM, odLM, .func (PySem.W.fnOf "_law_many" "_law_many" (defArgs sLMany) (defBody sLMany) (defScope sLMany) .none kVLM dcLM pmLM anLM cdLM ctLM), slLM⟩)
    (cLM : PySem.W.codeIn K cdLM "_law_many" = true)
    (kLM : PySem.W.keepIn K (.ref fLM) = true)
    (aLN : PySem.W.nsIn K mainGlobals "_law_answer" = some (some (.ref fLN)))
    (lLN : K.lookup fLN = some ⟨ocLN, odLN, .func (PySem.W.fnOf "_law_answer" "_law_answer" (defArgs sLAnswer) (defBody sLAnswer) (defScope sLAnswer) .none kVLN dcLN pmLN anLN cdLN ctLN), slLN⟩)
    (cLN : PySem.W.codeIn K cdLN "_law_answer" = true)
    (kLN : PySem.W.keepIn K (.ref fLN) = true)
    (aLU : PySem.W.nsIn K mainGlobals "_law_without" = some (some (.ref fLU)))
    (lLU : K.lookup fLU = some ⟨ocLU, odLU, .func (PySem.W.fnOf "_law_without" "_law_without" (defArgs sLWithout) (defBody sLWithout) (defScope sLWithout) .none kVLU dcLU pmLU anLU cdLU ctLU), slLU⟩)
    (cLU : PySem.W.codeIn K cdLU "_law_without" = true)
    (kLU : PySem.W.keepIn K (.ref fLU) = true)
    (aLW : PySem.W.nsIn K mainGlobals "_law_with" = some (some (.ref fLW)))
    (lLW : K.lookup fLW = some ⟨ocLW, odLW, .func (PySem.W.fnOf "_law_with" "_law_with" (defArgs sLWith) (defBody sLWith) (defScope sLWith) .none kVLW dcLW pmLW anLW cdLW ctLW), slLW⟩)
    (cLW : PySem.W.codeIn K cdLW "_law_with" = true)
    (kLW : PySem.W.keepIn K (.ref fLW) = true)
    (aLS : PySem.W.nsIn K mainGlobals "_law_start" = some (some (.ref fLS)))
    (lLS : K.lookup fLS = some ⟨ocLS, odLS, .func (PySem.W.fnOf "_law_start" "_law_start" (defArgs sLStart) (defBody sLStart) (defScope sLStart) .none kVLS dcLS pmLS anLS cdLS ctLS), slLS⟩)
    (cLS : PySem.W.codeIn K cdLS "_law_start" = true)
    (kLS : PySem.W.keepIn K (.ref fLS) = true)
    (aLK : PySem.W.nsIn K mainGlobals "_law_key" = some (some (.ref fLK)))
    (lLK : K.lookup fLK = some ⟨ocLK, odLK, .func (PySem.W.fnOf "_law_key" "_law_key" (defArgs sLKey) (defBody sLKey) (defScope sLKey) .none kVLK dcLK pmLK anLK cdLK ctLK), slLK⟩)
    (cLK : PySem.W.codeIn K cdLK "_law_key" = true)
    (kLK : PySem.W.keepIn K (.ref fLK) = true)
    (aLP : PySem.W.nsIn K mainGlobals "_law_space" = some (some (.ref fLP)))
    (lLP : K.lookup fLP = some ⟨ocLP, odLP, .func (PySem.W.fnOf "_law_space" "_law_space" (defArgs sLSpace) (defBody sLSpace) (defScope sLSpace) .none kVLP dcLP pmLP anLP cdLP ctLP), slLP⟩)
    (cLP : PySem.W.codeIn K cdLP "_law_space" = true)
    (kLP : PySem.W.keepIn K (.ref fLP) = true)
    (aLA : PySem.W.nsIn K mainGlobals "_law_after" = some (some (.ref fLA)))
    (lLA : K.lookup fLA = some ⟨ocLA, odLA, .func (PySem.W.fnOf "_law_after" "_law_after" (defArgs sLAfter) (defBody sLAfter) (defScope sLAfter) .none kVLA dcLA pmLA anLA cdLA ctLA), slLA⟩)
    (cLA : PySem.W.codeIn K cdLA "_law_after" = true)
    (kLA : PySem.W.keepIn K (.ref fLA) = true)
    (aLR : PySem.W.nsIn K mainGlobals "_law_sure" = some (some (.ref fLR)))
    (lLR : K.lookup fLR = some ⟨ocLR, odLR, .func (PySem.W.fnOf "_law_sure" "_law_sure" (defArgs sLSure) (defBody sLSure) (defScope sLSure) .none kVLR dcLR pmLR anLR cdLR ctLR), slLR⟩)
    (cLR : PySem.W.codeIn K cdLR "_law_sure" = true)
    (kLR : PySem.W.keepIn K (.ref fLR) = true)
    (aLT : PySem.W.nsIn K mainGlobals "_law_told" = some (some (.ref fLT)))
    (lLT : K.lookup fLT = some ⟨ocLT, odLT, .func (PySem.W.fnOf "_law_told" "_law_told" (defArgs sLTold) (defBody sLTold) (defScope sLTold) .none kVLT dcLT pmLT anLT cdLT ctLT), slLT⟩)
    (cLT : PySem.W.codeIn K cdLT "_law_told" = true)
    (kLT : PySem.W.keepIn K (.ref fLT) = true)
    (aLZ : PySem.W.nsIn K mainGlobals "_law_step" = some (some (.ref fLZ)))
    (lLZ : K.lookup fLZ = some ⟨ocLZ, odLZ, .func (PySem.W.fnOf "_law_step" "_law_step" (defArgs sLStep) (defBody sLStep) (defScope sLStep) .none kVLZ dcLZ pmLZ anLZ cdLZ ctLZ), slLZ⟩)
    (cLZ : PySem.W.codeIn K cdLZ "_law_step" = true)
    (kLZ : PySem.W.keepIn K (.ref fLZ) = true)
    (aLJ : PySem.W.nsIn K mainGlobals "_law_named" = some (some (.ref fLJ)))
    (lLJ : K.lookup fLJ = some ⟨ocLJ, odLJ, .func (PySem.W.fnOf "_law_named" "_law_named" (defArgs sLNamed) (defBody sLNamed) (defScope sLNamed) .none kVLJ dcLJ pmLJ anLJ cdLJ ctLJ), slLJ⟩)
    (cLJ : PySem.W.codeIn K cdLJ "_law_named" = true)
    (kLJ : PySem.W.keepIn K (.ref fLJ) = true)
    (aLQ : PySem.W.nsIn K mainGlobals "_law_record" = some (some (.ref fLQ)))
    (lLQ : K.lookup fLQ = some ⟨ocLQ, odLQ, .func (PySem.W.fnOf "_law_record" "_law_record" (defArgs sLRecord) (defBody sLRecord) (defScope sLRecord) .none kVLQ dcLQ pmLQ anLQ cdLQ ctLQ), slLQ⟩)
    (cLQ : PySem.W.codeIn K cdLQ "_law_record" = true)
    (kLQ : PySem.W.keepIn K (.ref fLQ) = true)
    (aLF : PySem.W.nsIn K mainGlobals "_law_refused" = some (some (.ref fLF)))
    (lLF : K.lookup fLF = some ⟨ocLF, odLF, .func (PySem.W.fnOf "_law_refused" "_law_refused" (defArgs sLRefused) (defBody sLRefused) (defScope sLRefused) .none kVLF dcLF pmLF anLF cdLF ctLF), slLF⟩)
    (cLF : PySem.W.codeIn K cdLF "_law_refused" = true)
    (kLF : PySem.W.keepIn K (.ref fLF) = true)
    (aLV : PySem.W.nsIn K mainGlobals "_law_value" = some (some (.ref fLV)))
    (lLV : K.lookup fLV = some ⟨ocLV, odLV, .func (PySem.W.fnOf "_law_value" "_law_value" (defArgs sLValue) (defBody sLValue) (defScope sLValue) .none kVLV dcLV pmLV anLV cdLV ctLV), slLV⟩)
    (cLV : PySem.W.codeIn K cdLV "_law_value" = true)
    (kLV : PySem.W.keepIn K (.ref fLV) = true)
    (aLH : PySem.W.nsIn K mainGlobals "_law_reads" = some (some (.ref fLH)))
    (lLH : K.lookup fLH = some ⟨ocLH, odLH, .func (PySem.W.fnOf "_law_reads" "_law_reads" (defArgs sLReads) (defBody sLReads) (defScope sLReads) .none kVLH dcLH pmLH anLH cdLH ctLH), slLH⟩)
    (cLH : PySem.W.codeIn K cdLH "_law_reads" = true)
    (kLH : PySem.W.keepIn K (.ref fLH) = true)
    (aL : PySem.W.nsIn K mainGlobals "law" = some (some (.ref fL)))
    (lL : K.lookup fL = some ⟨ocL, odL, .func (PySem.W.fnOf "law" "law" (defArgs sLaw) (defBody sLaw) (defScope sLaw) .none kVL dcL pmL anL cdL ctL), slL⟩)
    (cL : PySem.W.codeIn K cdL "law" = true)
    (kL : PySem.W.keepIn K (.ref fL) = true)
    (gHEAD : PySem.W.nsIn K mainGlobals "HEAD" = some (some (.int 5 tHEAD)))
    (gNO_FENCE : PySem.W.nsIn K mainGlobals "NO_FENCE" = some (some (.ref aNF)))
    (lNF : K.lookup aNF = some ⟨.type "tuple", dNF, .seq #[.ref aNE, .none] nNF, sNF⟩)
    (lNE : K.lookup aNE = some ⟨.type "tuple", dNE, .seq #[] nNE, sNE⟩)
    (z_len : PySem.W.nsIn K mainGlobals "len" = some none)
    (z_abs : PySem.W.nsIn K mainGlobals "abs" = some none)
    (z_int : PySem.W.nsIn K mainGlobals "int" = some none)
    (z_list : PySem.W.nsIn K mainGlobals "list" = some none)
    (z_range : PySem.W.nsIn K mainGlobals "range" = some none)
    (z_tuple : PySem.W.nsIn K mainGlobals "tuple" = some none)
    (z_sorted : PySem.W.nsIn K mainGlobals "sorted" = some none)
    (z_min : PySem.W.nsIn K mainGlobals "min" = some none)
    (z_dict : PySem.W.nsIn K mainGlobals "dict" = some none)
    (z_repr : PySem.W.nsIn K mainGlobals "repr" = some none)
    (z_isinstance : PySem.W.nsIn K mainGlobals "isinstance" = some none)
    (z_bool : PySem.W.nsIn K mainGlobals "bool" = some none)
    (e1N : PySem.W.findIn K (.ref CN) "__getattribute__" = some (some (.builtin "BaseException.__getattribute__")))
    (e2N : PySem.W.findIn K (.ref CN) "__getattr__" = some none)
    (e3N : PySem.W.hasDictIn K CN = true)
    (e4N : PySem.W.findIn K (.ref CN) "__class__" = some (some (.builtin "object.__class__")))
    (e7N : PySem.W.mroIn K CN (.type "object") = some true)
    (e5 : PySem.W.specialIn K (.builtin "object.__class__") "__get__" = some (some (.builtin "getset_descriptor.__get__")))
    (e6 : PySem.W.takesIn K (.builtin "object.__class__") = some true)
    : ∃ fd : FuncData, (∀ (s : Shared) (v : Value), BindsTo s fd ⟨[v], []⟩ [("script", v)]) ∧ ∀ base : Heap, K.In base → base.Ns mainGlobals mg → LawG l.prog w K mg base 8 fa fd ["script"] (spLaw K) := by
  have e := hfa.symm.trans (PySem.W.mg_of X G aL)
  cases e
  have NVx : NV K mg CN CS := ⟨PySem.W.mg_of X G aN_, xNe, kNe, bNe, tNe, PySem.W.mg_of X G aS_, exm_sub bSe iSe tSe sNe⟩
  have B : BK mg := ⟨PySem.W.mg_none_of X G z_len, PySem.W.mg_none_of X G z_int, PySem.W.mg_none_of X G z_range, PySem.W.mg_none_of X G z_min, PySem.W.mg_none_of X G z_sorted, PySem.W.mg_none_of X G z_tuple, PySem.W.mg_none_of X G z_dict, PySem.W.mg_none_of X G z_repr, PySem.W.mg_none_of X G z_isinstance⟩
  have LBx : LB mg := ⟨PySem.W.mg_none_of X G z_len, PySem.W.mg_none_of X G z_abs, PySem.W.mg_none_of X G z_int, PySem.W.mg_none_of X G z_list, PySem.W.mg_none_of X G z_tuple, PySem.W.mg_none_of X G z_sorted, PySem.W.mg_none_of X G z_range⟩
  have hHD : ∃ t, mg "HEAD" = some (Value.int 5 t) := ⟨_, PySem.W.mg_of X G gHEAD⟩
  have hNF := PySem.W.mg_of X G gNO_FENCE
  have tNF : ∀ H, FenceAt K H (.ref aNF) [] none := fun H => ⟨aNF, aNE, .non, rfl, (.inr ⟨_, _, _, lNF, rfl, rfl, (show (2 : Nat) ≤ sizeLine by decide), (.cons rfl (.cons rfl .nil))⟩), ⟨[], (.inr ⟨_, _, _, lNE, rfl, rfl, (show (0 : Nat) ≤ sizeLine by decide), .nil⟩), .nil⟩, rfl⟩
  have XC : ExcC K CN := ⟨e1N, e2N, bNe, e3N, e4N, e5, e6, e7N⟩
  have BX : BI mg := ⟨PySem.W.mg_none_of X G z_int, PySem.W.mg_none_of X G z_bool, PySem.W.mg_none_of X G z_isinstance⟩
  have FWK := fun_mk (st := sWithKey) lWK cWK kWK
  have FWO := fun_mk (st := sWithoutKey) lWO cWO kWO
  have FWH := fun_mk (st := sWithHolder) lWH cWH kWH
  have FFi := fun_mk (st := sFieldsOf) lFi cFi kFi
  have FAn := fun_mk (st := sAnswerOf) lAn cAn kAn
  have FEf := fun_mk (st := sEffects) lEf cEf kEf
  have FEk := fun_mk (st := sEffKind) lEk cEk kEk
  have FNs := fun_mk (st := sNewState) lNs cNs kNs
  have FAp := fun_mk (st := sApply) lAp cAp kAp
  have FAe := fun_mk (st := sAfterEff) lAe cAe kAe
  have FAw := fun_mk (st := sAfterWithin) lAw cAw kAw
  have FWs := fun_mk (st := sWithoutSpace) lWs cWs kWs
  have FWe := fun_mk (st := sWithEntry) lWe cWe kWe
  have FCh := fun_mk (st := sChanged) lCh cCh kCh
  have FWh := fun_mk (st := sWhole) lWh cWh kWh
  have FSo := fun_mk (st := sSpaceOf) lSo cSo kSo
  have FRc := fun_mk (st := sReadCell) lRc cRc kRc
  have FRs := fun_mk (st := sReadSnap) lRs cRs kRs
  have FLC := fun_mk (st := sLCell) lLC cLC kLC
  have FLD := fun_mk (st := sLDigits) lLD cLD kLD
  have FLM := fun_mk (st := sLMany) lLM cLM kLM
  have FLN := fun_mk (st := sLAnswer) lLN cLN kLN
  have FLU := fun_mk (st := sLWithout) lLU cLU kLU
  have FLW := fun_mk (st := sLWith) lLW cLW kLW
  have FLS := fun_mk (st := sLStart) lLS cLS kLS
  have FLK := fun_mk (st := sLKey) lLK cLK kLK
  have FLP := fun_mk (st := sLSpace) lLP cLP kLP
  have FLA := fun_mk (st := sLAfter) lLA cLA kLA
  have FLR := fun_mk (st := sLSure) lLR cLR kLR
  have FLT := fun_mk (st := sLTold) lLT cLT kLT
  have FLZ := fun_mk (st := sLStep) lLZ cLZ kLZ
  have FLJ := fun_mk (st := sLNamed) lLJ cLJ kLJ
  have FLQ := fun_mk (st := sLRecord) lLQ cLQ kLQ
  have FLF := fun_mk (st := sLRefused) lLF cLF kLF
  have FLV := fun_mk (st := sLValue) lLV cLV kLV
  have FLH := fun_mk (st := sLReads) lLH cLH kLH
  have FL := fun_mk (st := sLaw) lL cL kL
  have bWK := FWK.binds (ps := ["fence", "host", "key"]) fun _ _ _ _ _ _ us hl => match us, hl with | [_, _, _], _ => rfl
  have bWO := FWO.binds (ps := ["fence", "host"]) fun _ _ _ _ _ _ us hl => match us, hl with | [_, _], _ => rfl
  have bWH := FWH.binds (ps := ["fence", "reservation"]) fun _ _ _ _ _ _ us hl => match us, hl with | [_, _], _ => rfl
  have bFi := FFi.binds (ps := ["record"]) fun _ _ _ _ _ _ us hl => match us, hl with | [_], _ => rfl
  have bAn := FAn.binds (ps := ["record"]) fun _ _ _ _ _ _ us hl => match us, hl with | [_], _ => rfl
  have bEf := FEf.binds (ps := ["record"]) fun _ _ _ _ _ _ us hl => match us, hl with | [_], _ => rfl
  have bEk := FEk.binds (ps := ["order", "kind", "host", "fields"]) fun _ _ _ _ _ _ us hl => match us, hl with | [_, _, _, _], _ => rfl
  have bNs := FNs.binds (ps := []) fun _ _ _ _ _ _ us hl => match us, hl with | [], _ => rfl
  have bAp := FAp.binds (ps := ["state", "record"]) fun _ _ _ _ _ _ us hl => match us, hl with | [_, _], _ => rfl
  have bAe := FAe.binds (ps := ["state", "topic", "value"]) fun _ _ _ _ _ _ us hl => match us, hl with | [_, _, _], _ => rfl
  have bAw := FAw.binds (ps := ["state", "topic", "value"]) fun _ _ _ _ _ _ us hl => match us, hl with | [_, _, _], _ => rfl
  have bWs := FWs.binds (ps := ["state", "namespace"]) fun _ _ _ _ _ _ us hl => match us, hl with | [_, _], _ => rfl
  have bWe := FWe.binds (ps := ["state", "part", "name", "value"]) fun _ _ _ _ _ _ us hl => match us, hl with | [_, _, _, _], _ => rfl
  have bCh := FCh.binds (ps := ["table", "name", "value"]) fun _ _ _ _ _ _ us hl => match us, hl with | [_, _, _], _ => rfl
  have bWh := FWh.binds (ps := ["value"]) fun _ _ _ _ _ _ us hl => match us, hl with | [_], _ => rfl
  have bSo := FSo.binds (ps := ["state", "namespace"]) fun _ _ _ _ _ _ us hl => match us, hl with | [_, _], _ => rfl
  have bRc := FRc.binds (ps := ["state", "namespace", "place"]) fun _ _ _ _ _ _ us hl => match us, hl with | [_, _, _], _ => rfl
  have bRs := FRs.binds (ps := ["state", "namespace", "number", "place"]) fun _ _ _ _ _ _ us hl => match us, hl with | [_, _, _, _], _ => rfl
  have bLC := FLC.binds (ps := ["script", "k"]) fun _ _ _ _ _ _ us hl => match us, hl with | [_, _], _ => rfl
  have bLD := FLD.binds (ps := ["cell", "bases"]) fun _ _ _ _ _ _ us hl => match us, hl with | [_, _], _ => rfl
  have bLM := FLM.binds (ps := ["script", "few", "many"]) fun _ _ _ _ _ _ us hl => match us, hl with | [_, _, _], _ => rfl
  have bLN := FLN.binds (ps := ["order", "kind"]) fun _ _ _ _ _ _ us hl => match us, hl with | [_, _], _ => rfl
  have bLU := FLU.binds (ps := ["table", "key"]) fun _ _ _ _ _ _ us hl => match us, hl with | [_, _], _ => rfl
  have bLW := FLW.binds (ps := ["table", "key", "value"]) fun _ _ _ _ _ _ us hl => match us, hl with | [_, _, _], _ => rfl
  have bLS := FLS.binds (ps := []) fun _ _ _ _ _ _ us hl => match us, hl with | [], _ => rfl
  have bLK := FLK.binds (ps := ["fence", "host", "key"]) fun _ _ _ _ _ _ us hl => match us, hl with | [_, _, _], _ => rfl
  have bLP := FLP.binds (ps := ["world", "order", "host", "kind", "fields"]) fun _ _ _ _ _ _ us hl => match us, hl with | [_, _, _, _, _], _ => rfl
  have bLA := FLA.binds (ps := ["world", "order", "step"]) fun _ _ _ _ _ _ us hl => match us, hl with | [_, _, _], _ => rfl
  have bLR := FLR.binds (ps := ["kind", "world", "host", "namespace", "place"]) fun _ _ _ _ _ _ us hl => match us, hl with | [_, _, _, _, _], _ => rfl
  have bLT := FLT.binds (ps := ["world", "host"]) fun _ _ _ _ _ _ us hl => match us, hl with | [_, _], _ => rfl
  have bLZ := FLZ.binds (ps := ["cell", "world", "many"]) fun _ _ _ _ _ _ us hl => match us, hl with | [_, _, _], _ => rfl
  have bLJ := FLJ.binds (ps := ["world", "kind", "host", "fields"]) fun _ _ _ _ _ _ us hl => match us, hl with | [_, _, _, _], _ => rfl
  have bLQ := FLQ.binds (ps := ["order", "step"]) fun _ _ _ _ _ _ us hl => match us, hl with | [_, _], _ => rfl
  have bLF := FLF.binds (ps := ["state", "kind", "namespace", "number"]) fun _ _ _ _ _ _ us hl => match us, hl with | [_, _, _, _], _ => rfl
  have bLV := FLV.binds (ps := ["told", "due"]) fun _ _ _ _ _ _ us hl => match us, hl with | [_, _], _ => rfl
  have bLH := FLH.binds (ps := ["state", "world", "order"]) fun _ _ _ _ _ _ us hl => match us, hl with | [_, _, _], _ => rfl
  refine ⟨PySem.W.fnOf "law" "law" (defArgs sLaw) (defBody sLaw) (defScope sLaw) .none kVL dcL pmL anL cdL ctL, fun s v => .of_eq rfl, fun base _ _ => ?_⟩
  have dWO := Def.mk (ok_withoutKey (P := l.prog) (wrl := w) (base := base) FWO LBx) bWO kWO (PySem.W.mg_of X G aWO)
  have dWK := Def.mk (ok_withKey FWK LBx dWO) bWK kWK (PySem.W.mg_of X G aWK)
  have dWH := Def.mk (ok_withHolder (P := l.prog) (wrl := w) (mg := mg) (base := base) FWH) bWH kWH (PySem.W.mg_of X G aWH)
  have dFi := Def.mk (ok_fieldsOf (P := l.prog) (wrl := w) (base := base) FFi hHD) bFi kFi (PySem.W.mg_of X G aFi)
  have dAn := Def.mk (ok_answerOf (P := l.prog) (wrl := w) (mg := mg) (base := base) FAn) bAn kAn (PySem.W.mg_of X G aAn)
  have dEk := Def.mk (ok_effKind (P := l.prog) (wrl := w) (mg := mg) (base := base) FEk) bEk kEk (PySem.W.mg_of X G aEk)
  have dEf := Def.mk (ok_effects FEf hHD dAn dEk dFi) bEf kEf (PySem.W.mg_of X G aEf)
  have dCh := Def.mk (ok_changed (P := l.prog) (wd := w) (mg := mg) (base := base) FCh) bCh kCh (PySem.W.mg_of X G aCh)
  have dWe := Def.mk (ok_withEntry FWe dCh) bWe kWe (PySem.W.mg_of X G aWe)
  have dWs := Def.mk (ok_withoutSpace FWs dWe) bWs kWs (PySem.W.mg_of X G aWs)
  have dAw := Def.mk (ok_within FAw dWs dWe dCh dWO dWK dWH) bAw kAw (PySem.W.mg_of X G aAw)
  have dAe := Def.mk (ok_afterEff FAe hNF tNF dWe dAw) bAe kAe (PySem.W.mg_of X G aAe)
  have dNs := Def.mk (ok_newState (P := l.prog) (wd := w) (mg := mg) (base := base) FNs) bNs kNs (PySem.W.mg_of X G aNs)
  have dAp := Def.mk (ok_apply FAp dEf dAe) bAp kAp (PySem.W.mg_of X G aAp)
  have dLC := Def.mk (ok_cell (P := l.prog) (wd := w) (base := base) FLC B) bLC kLC (PySem.W.mg_of X G aLC)
  have dLD := Def.mk (ok_dig (P := l.prog) (wd := w) (base := base) FLD B) bLD kLD (PySem.W.mg_of X G aLD)
  have dLM := Def.mk (ok_many (P := l.prog) (wd := w) (base := base) FLM B) bLM kLM (PySem.W.mg_of X G aLM)
  have dLN := Def.mk (ok_lanswer (P := l.prog) (wd := w) (mg := mg) (base := base) FLN) bLN kLN (PySem.W.mg_of X G aLN)
  have dLU := Def.mk (ok_lwithout (P := l.prog) (wd := w) (base := base) FLU B) bLU kLU (PySem.W.mg_of X G aLU)
  have dLW := Def.mk (ok_lwith FLW dLU) bLW kLW (PySem.W.mg_of X G aLW)
  have dLS := Def.mk (ok_lstart (P := l.prog) (wd := w) (mg := mg) (base := base) FLS) bLS kLS (PySem.W.mg_of X G aLS)
  have dLK := Def.mk (ok_lkey (P := l.prog) (wd := w) (base := base) FLK B) bLK kLK (PySem.W.mg_of X G aLK)
  have dLP := Def.mk (ok_lspace FLP dLW dLU dLK) bLP kLP (PySem.W.mg_of X G aLP)
  have dLA := Def.mk (ok_lafter FLA B dLW dLU dLN dLP) bLA kLA (PySem.W.mg_of X G aLA)
  have dLR := Def.mk (ok_lsure (P := l.prog) (wd := w) (mg := mg) (base := base) FLR) bLR kLR (PySem.W.mg_of X G aLR)
  have dLT := Def.mk (ok_ltold (P := l.prog) (wd := w) (mg := mg) (base := base) FLT) bLT kLT (PySem.W.mg_of X G aLT)
  have dLJ := Def.mk (ok_lnamed (P := l.prog) (wd := w) (mg := mg) (base := base) FLJ) bLJ kLJ (PySem.W.mg_of X G aLJ)
  have dLQ := Def.mk (ok_lrecord (P := l.prog) (wd := w) (base := base) FLQ B) bLQ kLQ (PySem.W.mg_of X G aLQ)
  have dLZ := Def.mk (ok_lstep FLZ B dLD dLJ dLR dLT) bLZ kLZ (PySem.W.mg_of X G aLZ)
  have dWh := Def.mk (ok_whole (P := l.prog) (wd := w) (base := base) FWh BX) bWh kWh (PySem.W.mg_of X G aWh)
  have dSo := Def.mk (ok_spaceOf FSo NVx dWh) bSo kSo (PySem.W.mg_of X G aSo)
  have dRc := Def.mk (ok_readCell FRc dSo) bRc kRc (PySem.W.mg_of X G aRc)
  have dRs := Def.mk (ok_readSnap FRs NVx dWh) bRs kRs (PySem.W.mg_of X G aRs)
  have dLV := Def.mk (ok_lvalue (P := l.prog) (wd := w) (base := base) FLV BX) bLV kLV (PySem.W.mg_of X G aLV)
  have dLF := Def.mk (ok_lrefused FLF BX NVx XC dSo dRc dRs) bLF kLF (PySem.W.mg_of X G aLF)
  have dLH := Def.mk (ok_lreads FLH B (PySem.W.mg_none_of X G z_list) dLV dLF dSo dRc dRs) bLH kLH (PySem.W.mg_of X G aLH)
  exact ok_law FL B dLS dNs dLM dLC dLZ dAp dLQ dLA dLH
/-- the law row's walk: at most 63 items -/
theorem walk_law {l : PySem.W.OpenLaw} {q : Program} {loose : List Str} {XP : (Str → Option Value) → Heap → Prop} {YP : World → Heap → Prop} {d : DefRec} {K : Params → PySem.W.Frag} (hn : l.most = some 63) (hdf : d.params.defaults = [])
    (hY : ∀ (w : World) (h : Heap), YP w h → (K w.params).In h)
    (F : ∀ (w : World) (mg : Str → Option Value) (fa : Addr) (h : Heap), (K w.params).In h → h.Ns mainGlobals mg → mg d.name = some (.ref fa) →
      ∃ fd : FuncData, (∀ (s : Shared) (u : Value), BindsTo s fd ⟨[u], []⟩ [("script", u)]) ∧ ∀ base : Heap, (K w.params).In base → base.Ns mainGlobals mg → LawG l.prog w (K w.params) mg base 8 fa fd ["script"] (spLaw (K w.params))) :
    PySem.W.WalkO q loose XP YP l.row.toRowW d [] (fun f vs => PySem.call f vs) :=
  walkG (n := 63) (k := 8) (x := "script") (KK := K) (sp := spLaw) hn (by decide) hdf ⟨rfl, by decide, by decide⟩ hY F (fun _ _ a ns hl _ hS => ⟨a, ns, rfl, hS, hl, fun _ => rfl⟩)
end Sg

set_option Elab.async false
set_option linter.all false
set_option maxRecDepth 100000
set_option maxHeartbeats 8000000
open PySem PySem.W PyProof.Rows
set_option maxRecDepth 100000 in
set_option maxHeartbeats 0 in
theorem PySem.Challenge.cw_spindlegate_k29_reading_the_state_holds : PySem.Challenge.rw_spindlegate_k29_reading_the_state.Holds := by
  w_on; o_law; k_head; (case hw => w_witness2)
  k_fill
  refine Sg.walk_law (l := PySem.Challenge.rw_spindlegate_k29_reading_the_state) rfl rfl (fun w h Y => PySem.W.kIn_of Y) ?F
  case F =>
    intro w mg fa h KX G hmg
    refine' Sg.all_mk KX G hmg ?aN_ ?aS_ ?xNe ?kNe ?bNe ?tNe ?sNe ?iSe ?bSe ?tSe ?aWK ?lWK ?cWK ?kWK ?aWO ?lWO ?cWO ?kWO ?aWH ?lWH ?cWH ?kWH ?aFi ?lFi ?cFi ?kFi ?aAn ?lAn ?cAn ?kAn ?aEf ?lEf ?cEf ?kEf ?aEk ?lEk ?cEk ?kEk ?aNs ?lNs ?cNs ?kNs ?aAp ?lAp ?cAp ?kAp ?aAe ?lAe ?cAe ?kAe ?aAw ?lAw ?cAw ?kAw ?aWs ?lWs ?cWs ?kWs ?aWe ?lWe ?cWe ?kWe ?aCh ?lCh ?cCh ?kCh ?aWh ?lWh ?cWh ?kWh ?aSo ?lSo ?cSo ?kSo ?aRc ?lRc ?cRc ?kRc ?aRs ?lRs ?cRs ?kRs ?aLC ?lLC ?cLC ?kLC ?aLD ?lLD ?cLD ?kLD ?aLM ?lLM ?cLM ?kLM ?aLN ?lLN ?cLN ?kLN ?aLU ?lLU ?cLU ?kLU ?aLW ?lLW ?cLW ?kLW ?aLS ?lLS ?cLS ?kLS ?aLK ?lLK ?cLK ?kLK ?aLP ?lLP ?cLP ?kLP ?aLA ?lLA ?cLA ?kLA ?aLR ?lLR ?cLR ?kLR ?aLT ?lLT ?cLT ?kLT ?aLZ ?lLZ ?cLZ ?kLZ ?aLJ ?lLJ ?cLJ ?kLJ ?aLQ ?lLQ ?cLQ ?kLQ ?aLF ?lLF ?cLF ?kLF ?aLV ?lLV ?cLV ?kLV ?aLH ?lLH ?cLH ?kLH ?aL ?lL ?cL ?kL ?gHEAD ?gNO_FENCE ?lNF ?lNE ?z_len ?z_abs ?z_int ?z_list ?z_range ?z_tuple ?z_sorted ?z_min ?z_dict ?z_repr ?z_isinstance ?z_bool ?e1N ?e2N ?e3N ?e4N ?e7N ?e5 ?e6
    (case aN_ => k_is)
    (case aS_ => k_is)
    (case xNe => k_exc)
    (case kNe => k_is)
    (case bNe => k_is)
    (case tNe => k_is)
    (case sNe => first | rfl | k_is)
    (case iSe => k_is)
    (case bSe => k_is)
    (case tSe => k_is)
    (case aWK => k_is)
    (case lWK => k_is)
    (case cWK => k_is)
    (case kWK => k_is)
    (case aWO => k_is)
    (case lWO => k_is)
    (case cWO => k_is)
    (case kWO => k_is)
    (case aWH => k_is)
    (case lWH => k_is)
    (case cWH => k_is)
    (case kWH => k_is)
    (case aFi => k_is)
    (case lFi => k_is)
    (case cFi => k_is)
    (case kFi => k_is)
    (case aAn => k_is)
    (case lAn => k_is)
    (case cAn => k_is)
    (case kAn => k_is)
    (case aEf => k_is)
    (case lEf => k_is)
    (case cEf => k_is)
    (case kEf => k_is)
    (case aEk => k_is)
    (case lEk => k_is)
    (case cEk => k_is)
    (case kEk => k_is)
    (case aNs => k_is)
    (case lNs => k_is)
    (case cNs => k_is)
    (case kNs => k_is)
    (case aAp => k_is)
    (case lAp => k_is)
    (case cAp => k_is)
    (case kAp => k_is)
    (case aAe => k_is)
    (case lAe => k_is)
    (case cAe => k_is)
    (case kAe => k_is)
    (case aAw => k_is)
    (case lAw => k_is)
    (case cAw => k_is)
    (case kAw => k_is)
    (case aWs => k_is)
    (case lWs => k_is)
    (case cWs => k_is)
    (case kWs => k_is)
    (case aWe => k_is)
    (case lWe => k_is)
    (case cWe => k_is)
    (case kWe => k_is)
    (case aCh => k_is)
    (case lCh => k_is)
    (case cCh => k_is)
    (case kCh => k_is)
    (case aWh => k_is)
    (case lWh => k_is)
    (case cWh => k_is)
    (case kWh => k_is)
    (case aSo => k_is)
    (case lSo => k_is)
    (case cSo => k_is)
    (case kSo => k_is)
    (case aRc => k_is)
    (case lRc => k_is)
    (case cRc => k_is)
    (case kRc => k_is)
    (case aRs => k_is)
    (case lRs => k_is)
    (case cRs => k_is)
    (case kRs => k_is)
    (case aLC => k_is)
    (case lLC => k_is)
    (case cLC => k_is)
    (case kLC => k_is)
    (case aLD => k_is)
    (case lLD => k_is)
    (case cLD => k_is)
    (case kLD => k_is)
    (case aLM => k_is)
    (case lLM => k_is)
    (case cLM => k_is)
    (case kLM => k_is)
    (case aLN => k_is)
    (case lLN => k_is)
    (case cLN => k_is)
    (case kLN => k_is)
    (case aLU => k_is)
    (case lLU => k_is)
    (case cLU => k_is)
    (case kLU => k_is)
    (case aLW => k_is)
    (case lLW => k_is)
    (case cLW => k_is)
    (case kLW => k_is)
    (case aLS => k_is)
    (case lLS => k_is)
    (case cLS => k_is)
    (case kLS => k_is)
    (case aLK => k_is)
    (case lLK => k_is)
    (case cLK => k_is)
    (case kLK => k_is)
    (case aLP => k_is)
    (case lLP => k_is)
    (case cLP => k_is)
    (case kLP => k_is)
    (case aLA => k_is)
    (case lLA => k_is)
    (case cLA => k_is)
    (case kLA => k_is)
    (case aLR => k_is)
    (case lLR => k_is)
    (case cLR => k_is)
    (case kLR => k_is)
    (case aLT => k_is)
    (case lLT => k_is)
    (case cLT => k_is)
    (case kLT => k_is)
    (case aLZ => k_is)
    (case lLZ => k_is)
    (case cLZ => k_is)
    (case kLZ => k_is)
    (case aLJ => k_is)
    (case lLJ => k_is)
    (case cLJ => k_is)
    (case kLJ => k_is)
    (case aLQ => k_is)
    (case lLQ => k_is)
    (case cLQ => k_is)
    (case kLQ => k_is)
    (case aLF => k_is)
    (case lLF => k_is)
    (case cLF => k_is)
    (case kLF => k_is)
    (case aLV => k_is)
    (case lLV => k_is)
    (case cLV => k_is)
    (case kLV => k_is)
    (case aLH => k_is)
    (case lLH => k_is)
    (case cLH => k_is)
    (case kLH => k_is)
    (case aL => k_is)
    (case lL => k_is)
    (case cL => k_is)
    (case kL => k_is)
    (case gHEAD => k_is)
    (case gNO_FENCE => k_is)
    (case lNF => k_is)
    (case lNE => k_is)
    (case z_len => k_is)
    (case z_abs => k_is)
    (case z_int => k_is)
    (case z_list => k_is)
    (case z_range => k_is)
    (case z_tuple => k_is)
    (case z_sorted => k_is)
    (case z_min => k_is)
    (case z_dict => k_is)
    (case z_repr => k_is)
    (case z_isinstance => k_is)
    (case z_bool => k_is)
    (case e1N => k_is)
    (case e2N => k_is)
    (case e3N => k_is)
    (case e4N => k_is)
    (case e7N => first | rfl | k_is)
    (case e5 => first | rfl | k_is)
    (case e6 => first | rfl | k_is)

