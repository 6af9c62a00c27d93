import PyProof.Rows.All
import Wide.All
import OpenK.AllK
import Wide.FinOn
import HandS.Base
import HandS.Call
import HandS.List
import HandS.Comp
import HandS.Ends
import HandS.Dict
import HandS.Iter
import HandS.Text
import HandS.Words
import HandS.WordsList
import HandS.Steps
import HandS.Evl
import HandS.Exc
import HandS.TryOnly
import HandS.ExcOwn
import HandS.WordsExc
import HandS.IsInst
import HandS.ExcIs
import HandS.Deep
import HandS.More
import HandS.WrittenGet
import KE.KIndexOf
import HandS.Zip
import HandS.Star
import PyProof.RulesMatch
import PyProof.RulesMatchSeq
import PyProof.Rows.MatchSeqLen
import PyProof.Rows.TupIter
import KE.KDictPairs
import PyProof.P3In
import HandS.DictComp
import HandS.SortInts
import HandS.SetKeys
import HandS.Walk
import PyProof.DictUpdate
import PyProof.DictFindH
import HandS.SortRule
import HandS.DictEq
import HandS.DeepEq
import HandS.OwnEq
import HandS.Conv
import KE.KSortedM
import HandS.DictTup
import PySem.Challenge.RW_spindlegate_k41_answers_that_are_due
set_option Elab.async false
set_option linter.all false
set_option maxRecDepth 100000
set_option maxHeartbeats 4000000
/-! General lemmas: readings of expressions, small heaps, lists. -/
namespace Sg
open PySem PySem.Spec PyProof.Rows L2
section
variable {σ : L2.St} {H : Hp} {ta tb te : TE} {i j : Int} {K : PySem.W.Frag} {x y z : V}
theorem v0 {g : Int → Int → V} (ha : Val ta σ H (.int i)) (hb : Val tb σ H (.int j)) : Val (tOp (rI0 g) ta tb) σ H (g i j) := val_op ha hb fun _ q => ⟨i, j, rfl, rfl, q⟩
theorem vc {C : Int → Int → Prop} {g : Int → Int → V} (ha : Val ta σ H (.int i)) (hb : Val tb σ H (.int j)) (hc : C i j) : Val (tOp (rI C g) ta tb) σ H (g i j) := val_op ha hb fun _ q => ⟨i, j, rfl, rfl, hc, q⟩
theorem vEq (ha : Val ta σ H x) (hb : Val tb σ H y) (hs : scal x y = true) : Val (tOp rEq ta tb) σ H (.bl (decide (x = y))) := val_op ha hb fun _ q => ⟨hs, q⟩
theorem vNe (ha : Val ta σ H x) (hb : Val tb σ H y) (hs : scal x y = true) : Val (tOp rNe ta tb) σ H (.bl (!decide (x = y))) := val_op ha hb fun _ q => ⟨hs, q⟩
theorem vIx {p : Addr} {xs : List V} {n : Nat} (ha : Val ta σ H (.ref p)) (hb : Val tb σ H (.int (n : Int))) (hp : SqL K H p xs) (hn : xs[n]? = some z) : Val (tOp (rIxL K) ta tb) σ H z :=
  val_op ha hb fun _ q => ⟨p, xs, _, z, rfl, rfl, hp, atI_nat hn, q⟩
theorem vIs {v w : V} (h : Val te σ H v) (e : v = w) : Val te σ H w := e ▸ h
/-- a built-in's call of one argument -/
theorem vCB1 {r : List V → Hp → VK → Prop} (ha : Val ta σ H x) (hr : ∀ Q : VK, Q z H → r [x] H Q) : Val (tCB r (tCons ta tNil)) σ H z := fun Q q => ha _ (hr Q q)
theorem vCB2 {r : List V → Hp → VK → Prop} (ha : Val ta σ H x) (hb : Val tb σ H y) (hr : ∀ Q : VK, Q z H → r [x, y] H Q) : Val (tCB r (tCons ta (tCons tb tNil))) σ H z := fun Q q => ha _ (hb _ (hr Q q))
theorem aTest {b : Bool} (h : Val te σ H (.bl b)) : Ans (tTest te) σ H b := fun Q q => h _ ⟨b, rfl, q⟩
end
theorem map_get {α β : Type} {f : α → β} {l : List α} {i : Nat} {y : β} (h : (l.map f)[i]? = some y) : ∃ z, l[i]? = some z ∧ y = f z := by
  rw [List.getElem?_map] at h
  cases e : l[i]? with
  | none =>
    rw [e] at h
    cases h
  | some z =>
    rw [e] at h
    exact ⟨z, rfl, (Option.some.inj h).symm⟩
theorem get_map {α β : Type} {f : α → β} {l : List α} {i : Nat} {z : α} (h : l[i]? = some z) : (l.map f)[i]? = some (f z) := by rw [List.getElem?_map, h]; rfl
theorem upd_two {H : Hp} {a : Addr} {o u : HO} : upd (upd H a o) a u = upd H a u := upd_upd
theorem same_new {H : Hp} {p : Addr} {o : HO} (h : H p = Option.none) : Same H (upd H p o) := fun b u e => by
  rw [upd_ne (ne_of_none e h)]
  exact e
end Sg

set_option Elab.async false
set_option linter.all false
set_option maxRecDepth 100000
set_option maxHeartbeats 4000000
namespace Sg
open PySem PySem.Spec PyProof.Rows L2
/-! ### rules of our own -/
section
variable {X : Cx}
/-- C(), an own exception without an __init__ of its own -/
theorem pmk_own0 {C : Addr} {bmB : List Value} {B newId initId : String} {x : Str} {p pos : Pos} (F : ExcBaseFacts B newId initId bmB) (q : PySem.W.excIn X.K C bmB newId = true) (gC : X.mg x = some (.ref C))
    (kC : PySem.W.keepIn X.K (.ref C) = true) (r : Raises X (.ref C)) (hg : Gl X x) (hdb : (x == ("__debug__" : Str)) = false := by decide) :
    PMk X (.Call (.Name x p) [] [] pos) (fun _ H Q => Q (.ref C) none H) := by
  intro pins s σ H Q I h
  refine wpAny_Call_Name_kw (ld_glob I hg gC ?_ hdb)
  refine PySem.W.callWith_K0 I.kIn kC ?_
  obtain ⟨bm, N, nm, qn, bs, hdct, sn, sub, ab, col, dd, k0, k1, k2, k3, k5, mN, hC, hN, hni, T⟩ := exc_obj I.kIn q
  exact wpAny_call_exc_subT F T hC hN hni (fun h' e hm => mk_of I hm r h (I.hok.gone hm.new)) (Nat.zero_le _)
/-- o[i] of a list, by values, a place in bounds from the left -/
def rGetL (K : PySem.W.Frag) : V → V → Hp → VK → Prop := fun o i H Q => ∃ p xs n v, o = .ref p ∧ i = .int ((n : Nat) : Int) ∧ SqL K H p xs ∧ xs[n]? = some v ∧ Q v H
theorem get_list : PGet X (rGetL X.K) := by
  intro pins s σ H o i ov iv Q I ro ri h
  obtain ⟨p, xs, n, v, rfl, rfl, hq, he, q⟩ := h
  cases ro
  obtain ⟨t, rfl⟩ := ri
  obtain ⟨its, r, pl, hz⟩ := I.list hq
  obtain ⟨w, ew, rw'⟩ := r.get he
  have hl := r.length
  have hn := line63
  have hb := (List.getElem?_eq_some_iff.mp he).1
  exact wpAny_getItem_list pl.isList (by omega) (by omega) (by simpa using ew) ⟨v, H, I, rw', q⟩
/-- l.count(y): how many are equal, data of any depth -/
def rCountD (K : PySem.W.Frag) : V → List V → Hp → VK → Prop := fun x xs H Q => ∃ (a : Addr) (y : V) (d : PyData) (ds : List PyData), x = V.ref a ∧ xs = [y] ∧ Dp K H (V.ref a) (.list ds) ∧ Dp K H y d ∧
  SeqAt.shaped (.list ds) = true ∧ SeqAt.shaped d = true ∧ Q (.int (ds.countP (fun z => PyData.eqv z d) : Nat)) H
theorem mt_countD (hu : X.A.units + 65 < cLine) : MtR X "list.count" (rCountD X.K) := by
  intro pins s σ H x xs v us Q I rx rxs h
  obtain ⟨a, y, d, ds, rfl, rfl, hl, hy, sl, sd, q⟩ := h
  cases rx
  cases rxs with
  | cons ry rt =>
    rename_i uy ut
    cases rt
    obtain ⟨bs, r1⟩ := Dp.reads I d y uy hy ry
    have hxs : PyData.canLayAll0 ds = true := SeqAt.canLay_of_shaped sl
    have hroom : X.A.units + 1 + min (PyData.depthAll ds) d.depth < cLine := room_in_shaped sd hu
    cases hl with
    | lst hs ha =>
      obtain ⟨its, rv, ⟨⟨cls, dd, data, sls⟩, n, ho, hc, hdn, hdt⟩, hlen⟩ := I.list hs
      simp only at hc hdt
      subst hc hdt
      obtain ⟨as, h4⟩ := Dp.readsAll I ds _ its ha rv
      have hmap : its.map (SeqAt.readOf s.heap) = ds := SeqAt.readsAll_map ds its as hxs h4
      refine call_meets PySem.F.slot_list_count ⟨_, ho, rfl⟩ PySem.F.entry_list_count (PySem.F.args_list_count_2 _ _)
        (SeqAt.list_countAt a its.toArray n dd sls uy (fun u => PyData.eqv (SeqAt.readOf s.heap u) d)) ⟨ho, SeqAt.items_eqAt (vs := its.toArray) (show ReadsAll s.heap its.toArray.toList ds as from h4) r1 hxs (SeqAt.canLay_of_shaped sd) hroom, ?_⟩
      have ec : its.toArray.toList.countP (fun u => PyData.eqv (SeqAt.readOf s.heap u) d) = ds.countP (fun z => PyData.eqv z d) := by
        rw [← hmap, List.countP_map]
        rfl
      refine ⟨.int (ds.countP (fun z => PyData.eqv z d) : Nat), H, I.tok _, ⟨s.toks, ?_⟩, q⟩
      show Value.int ((its.toArray.toList.countP (fun u => PyData.eqv (SeqAt.readOf s.heap u) d) : Nat) : Int) s.toks = _
      rw [ec]
/-- isinstance(e, c), e the exception that the suite holds, whatever its class is -/
def rIsX (K : PySem.W.Frag) (a : Addr) (cls : Value) (d : Option Addr) : List V → Hp → VK → Prop := fun xs H Q => ∃ (D : Addr) (c : V) (cv : Value) (b : Bool), cls = .ref D ∧ d = none ∧ ExcC K D ∧ xs = [.ref a, c] ∧ (∀ u, RelV c u → u = cv) ∧ PySem.W.kitOne K (.ref D) cv = some b ∧ Q (.bl b) H
theorem call_isX {a : Addr} {oe : Obj} {cls : Value} {d : Option Addr} {pn : List (Addr × Obj)} (hz : Zc cls d oe) (hf : ∃ vs, oe.data = .fields vs) : CallR (X.suite a ((a, oe) :: pn)) (.builtin "isinstance") (rIsX X.K a cls d) := by
  intro pins s σ H xs us Q I r h
  obtain ⟨D, c, cv, b, rfl, rfl, C, rfl, hcv, e, q⟩ := h
  exact call_isE C hz hf pins s σ H _ us Q I r ⟨c, cv, b, rfl, hcv, e, q⟩
end
/-- an exception of a subclass is what the clause names -/
theorem exm_sub {K : PySem.W.Frag} {S T : Addr} (h1 : PySem.W.subIn K (.ref T) (.type "BaseException") = some true) (h2 : PySem.W.isClsIn K T = true) (h3 : PySem.W.typeIn K (.ref T) = some (.type "type")) (h4 : PySem.W.subIn K (.ref S) (.ref T) = some true) :
    PySem.W.exmOne K (.ref S) (.ref T) = some true := by
  have e1 : (PySem.W.subIn K (.ref T) (.type "BaseException") == some true) = true := by rw [h1] <;> rfl
  have e2 : ((PySem.W.clsIn K T).isSome && PySem.W.typeIn K (.ref T) == some (.type "type")) = true := by
    have h2' : (PySem.W.clsIn K T).isSome = true := h2
    rw [h2', h3] <;> rfl
  show (if (PySem.W.subIn K (.ref T) (.type "BaseException") == some true) = true then (if ((PySem.W.clsIn K T).isSome && PySem.W.typeIn K (.ref T) == some (.type "type")) = true then PySem.W.subIn K (.ref S) (.ref T) else none) else none) = some true
  rw [if_pos e1, if_pos e2]
  exact h4
end Sg

set_option Elab.async false
set_option linter.all false
set_option maxRecDepth 100000
set_option maxHeartbeats 4000000
namespace Sg
open PySem PySem.Spec PyProof.Rows L2
def top (i : Nat) : Stmt := PySem.Challenge.pw_spindlegate_k41_answers_that_are_due.main.body.getD i (.Pass ⟨0, 0, 0, 0⟩)
abbrev sKeyOf : Stmt := top 9
abbrev sHolderWay : Stmt := top 10
abbrev sRefusal : Stmt := top 11
abbrev sChangesNothing : Stmt := top 12
abbrev sRefusesKey : Stmt := top 13
abbrev sKeepsOut : Stmt := top 14
abbrev sRefReg : Stmt := top 15
abbrev sRefPre : Stmt := top 16
abbrev sAnswerDue : Stmt := top 24
abbrev sNamespaceOf : Stmt := top 25
abbrev sRefDue : Stmt := top 26
abbrev sPartOf : Stmt := top 27
abbrev sValueDue : Stmt := top 28
abbrev sFieldsDue : Stmt := top 29
abbrev sNext : Stmt := top 31
abbrev sCommand : Stmt := top 32
abbrev sLFence : Stmt := top 33
abbrev sLState : Stmt := top 34
abbrev sLHold : Stmt := top 35
abbrev sLFenced : Stmt := top 36
abbrev sLRef : Stmt := top 37
abbrev sLChF : Stmt := top 38
abbrev sLIdle : Stmt := top 39
abbrev sLChange : Stmt := top 40
abbrev sLVal : Stmt := top 41
abbrev sLFields : Stmt := top 42
abbrev sLKy : Stmt := top 43
abbrev sLaw : Stmt := top 44
abbrev sWhole : Stmt := top 1
abbrev sSpaceOf : Stmt := top 18
abbrev sReadCell : Stmt := top 19
abbrev sReadSnap : Stmt := top 20
structure Def (P : Program) (wd : World) (K : PySem.W.Frag) (mg : Str → Option Value) (base : Heap) (CX : CXT) (x : Str) (k : Nat) (ps : List Str) (sp : Sp) (f : Addr) (fd : FuncData) : Prop where
  ok : FnOk P wd K mg base CX k f fd ps sp
  bd : Binds K fd ps []
  kp : PySem.W.keepIn K (.ref f) = true
  mg : mg x = some (.ref f)
/-! ### what is kept -/
/-- every tuple is kept -/
structure TK (H H' : Hp) : Prop where
  t : ∀ a xs, H a = some (.tup xs) → H' a = some (.tup xs)
  f : ∀ a o xs, H a = some (.frz o (.tup xs)) → H' a = some (.frz o (.tup xs))
theorem TK.refl (H : Hp) : TK H H := ⟨fun _ _ h => h, fun _ _ _ h => h⟩
theorem TK.trans {H H1 H2 : Hp} (a : TK H H1) (b : TK H1 H2) : TK H H2 := ⟨fun x y h => b.t _ _ (a.t _ _ h), fun x y z h => b.f _ _ _ (a.f _ _ _ h)⟩
theorem TK.of {H H' : Hp} (s : Same H H') : TK H H' := ⟨fun _ _ h => s _ _ h, fun _ _ _ h => s _ _ h⟩
def Off (xs : List Addr) (H H' : Hp) : Prop := ∀ b o, H b = some o → b ∉ xs → H' b = some o
theorem Off.refl {xs : List Addr} (H : Hp) : Off xs H H := fun _ _ h _ => h
theorem Off.trans {xs : List Addr} {H H1 H2 : Hp} (a : Off xs H H1) (b : Off xs H1 H2) : Off xs H H2 := fun x o h n => b _ _ (a _ _ h n) n
theorem Off.of {xs : List Addr} {H H' : Hp} (s : Same H H') : Off xs H H' := fun _ _ h _ => s _ _ h
theorem Off.upd {xs : List Addr} {H : Hp} {p : Addr} {o : HO} (h : p ∈ xs) : Off xs H (upd H p o) := fun b u e n => by
  rw [upd_ne (fun (z : b = p) => n (by rw [z]; exact h))]; exact e
/-- lists and dicts alone were changed -/
theorem TK.off {xs : List Addr} {H H' : Hp} (o : Off xs H H') (h : ∀ x ∈ xs, (∃ l, H x = some (.lst l)) ∨ ∃ d, H x = some (.dK d)) : TK H H' := by
  refine ⟨fun a l e => o _ _ e fun m => ?_, fun a b l e => o _ _ e fun m => ?_⟩
  · rcases h a m with ⟨z, q⟩ | ⟨z, q⟩ <;> (rw [e] at q; cases q)
  · rcases h a m with ⟨z, q⟩ | ⟨z, q⟩ <;> (rw [e] at q; cases q)
section
variable {K : PySem.W.Frag} {H H' : Hp}
theorem sqT_tk {a : Addr} {xs : List V} (h : SqT K H a xs) (s : TK H H') : SqT K H' a xs := by
  rcases h with (h | ⟨o, h⟩) | h
  · exact .inl (.inl (s.t _ _ h))
  · exact .inl (.inr ⟨o, s.f _ _ _ h⟩)
  · exact .inr h
end
def strIn (s : Str) (ns : List Str) : Bool := ns.any fun y => decide (y = s)
theorem inV_str {s : Str} : ∀ {ns : List Str}, inV (.str s) (ns.map V.str) = strIn s ns
  | [] => rfl
  | n :: ns => by
    show (eqV (.str n) (.str s) || inV (.str s) (ns.map V.str)) = (decide (n = s) || strIn s ns)
    rw [inV_str (ns := ns)]
    rfl
theorem flat_strs : ∀ {ns : List Str}, (ns.map V.str).all flatV = true
  | [] => rfl
  | n :: ns => by rw [List.map_cons, List.all_cons, flat_strs (ns := ns)]; rfl
def strInD (ns : List Str) : PyData → Bool
  | .str s => strIn s ns
  | _ => false
theorem str_eqT {x : Str} : decide (V.str x = V.str x) = true := decide_eq_true rfl
theorem str_eqF {x y : Str} (h : ¬ x = y) : decide (V.str x = V.str y) = false := decide_eq_false (fun z => h (by cases z; rfl))
theorem nil_ {σ : L2.St} {H : Hp} {Q : List V → Hp → Prop} (h : Q [] H) : tNil σ H Q := h
theorem tc_ {σ : L2.St} {H : Hp} {v : V} {Q : List V → Hp → Prop} (h : Q [v] H) : tCons (tC v) tNil σ H Q := h
theorem yesIte {σ : L2.St} {H : Hp} {A B : Hp → Prop} (h : A H) : tYes σ H (fun b H3 => if b = true then A H3 else B H3) := by
  show (if true = true then A H else B H)
  rw [if_pos rfl]; exact h
/-- a method, ready to be called -/
structure Mth (P : Program) (wd : World) (K : PySem.W.Frag) (mg : Str → Option Value) (base : Heap) (CX : CXT) (C : Addr) (x : Str) (k : Nat) (ps : List Str) (sp : Sp) (f : Addr) (fd : FuncData) : Prop where
  ok : FnOk P wd K mg base CX k f fd ps sp
  bd : Binds K fd ps []
  me : Meth K C x f
theorem lk_here {k : Str} {v : V} {r : List (Str × V)} : List.lookup k ((k, v) :: r) = some v := by
  have e : (k == k) = true := beq_self_eq_true k
  simp only [List.lookup, e]
theorem lk_past {k g : Str} {v : V} {r : List (Str × V)} (h : (k == g) = false) : List.lookup k ((g, v) :: r) = List.lookup k r := by
  simp only [List.lookup, h]
theorem put_here {f : Str} {v x : V} {r : List (Str × V)} : putF f v ((f, x) :: r) = (f, v) :: r := if_pos rfl
theorem put_past {f g : Str} {v x : V} {r : List (Str × V)} (h : ¬ g = f) : putF f v ((g, x) :: r) = (g, x) :: putF f v r := if_neg h
end Sg

set_option Elab.async false
set_option linter.all false
set_option maxRecDepth 100000
set_option maxHeartbeats 4000000
namespace Sg
open PySem PySem.Spec PyProof.Rows L2
/-! ### data -/
def intB : PyData → Bool
  | .int _ => true
  | .bool _ => true
  | _ => false
def boolB : PyData → Bool
  | .bool _ => true
  | _ => false
def strB : PyData → Bool
  | .str _ => true
  | _ => false
def tupB : PyData → Bool
  | .tuple _ => true
  | _ => false
def lstB : PyData → Bool
  | .list _ => true
  | _ => false
def wholeD : PyData → Bool
  | .int _ => true
  | _ => false
def atLeastD (lo : Int) : PyData → Bool
  | .int i => decide (lo ≤ i)
  | _ => false
def betwD (lo hi : Int) : PyData → Bool
  | .int i => decide (lo ≤ i) && decide (i ≤ hi)
  | _ => false
/-- what a value's type is, by its data -/
theorem dp_ty {K : PySem.W.Frag} {H : Hp} {x : V} {d : PyData} (h : Dp K H x d) : ∃ t, TyX K H x t ∧ PySem.W.kitOne K t (.type "int") = some (intB d) ∧ PySem.W.kitOne K t (.type "bool") = some (boolB d) ∧ PySem.W.kitOne K t (.type "str") = some (strB d) ∧
    PySem.W.kitOne K t (.type "tuple") = some (tupB d) ∧ PySem.W.kitOne K t (.type "list") = some (lstB d) := by
  cases h with
  | non => exact ⟨_, .base .non, (show PySem.W.kitOne K (.type "NoneType") (.type "int") = some false from kit_ty (by decide +kernel)), (show PySem.W.kitOne K (.type "NoneType") (.type "bool") = some false from kit_ty (by decide +kernel)), (show PySem.W.kitOne K (.type "NoneType") (.type "str") = some false from kit_ty (by decide +kernel)), (show PySem.W.kitOne K (.type "NoneType") (.type "tuple") = some false from kit_ty (by decide +kernel)), (show PySem.W.kitOne K (.type "NoneType") (.type "list") = some false from kit_ty (by decide +kernel))⟩
  | bl b => exact ⟨_, .base (.bl b), (show PySem.W.kitOne K (.type "bool") (.type "int") = some true from kit_ty (by decide +kernel)), (show PySem.W.kitOne K (.type "bool") (.type "bool") = some true from kit_ty (by decide +kernel)), (show PySem.W.kitOne K (.type "bool") (.type "str") = some false from kit_ty (by decide +kernel)), (show PySem.W.kitOne K (.type "bool") (.type "tuple") = some false from kit_ty (by decide +kernel)), (show PySem.W.kitOne K (.type "bool") (.type "list") = some false from kit_ty (by decide +kernel))⟩
  | int i => exact ⟨_, .base (.int i), (show PySem.W.kitOne K (.type "int") (.type "int") = some true from kit_ty (by decide +kernel)), (show PySem.W.kitOne K (.type "int") (.type "bool") = some false from kit_ty (by decide +kernel)), (show PySem.W.kitOne K (.type "int") (.type "str") = some false from kit_ty (by decide +kernel)), (show PySem.W.kitOne K (.type "int") (.type "tuple") = some false from kit_ty (by decide +kernel)), (show PySem.W.kitOne K (.type "int") (.type "list") = some false from kit_ty (by decide +kernel))⟩
  | str x => exact ⟨_, .base (.str x), (show PySem.W.kitOne K (.type "str") (.type "int") = some false from kit_ty (by decide +kernel)), (show PySem.W.kitOne K (.type "str") (.type "bool") = some false from kit_ty (by decide +kernel)), (show PySem.W.kitOne K (.type "str") (.type "str") = some true from kit_ty (by decide +kernel)), (show PySem.W.kitOne K (.type "str") (.type "tuple") = some false from kit_ty (by decide +kernel)), (show PySem.W.kitOne K (.type "str") (.type "list") = some false from kit_ty (by decide +kernel))⟩
  | lst hs _ =>
    refine ⟨.type "list", ?_, (show PySem.W.kitOne K (.type "list") (.type "int") = some false from kit_ty (by decide +kernel)), (show PySem.W.kitOne K (.type "list") (.type "bool") = some false from kit_ty (by decide +kernel)), (show PySem.W.kitOne K (.type "list") (.type "str") = some false from kit_ty (by decide +kernel)), (show PySem.W.kitOne K (.type "list") (.type "tuple") = some false from kit_ty (by decide +kernel)), (show PySem.W.kitOne K (.type "list") (.type "list") = some true from kit_ty (by decide +kernel))⟩
    rcases hs with (h | ⟨o, h⟩) | ⟨o, its, n, h1, h2, _⟩
    · exact .base (.lst h)
    · exact .base (.frz h)
    · exact .kList h1 h2
  | tup hs _ =>
    refine ⟨.type "tuple", ?_, (show PySem.W.kitOne K (.type "tuple") (.type "int") = some false from kit_ty (by decide +kernel)), (show PySem.W.kitOne K (.type "tuple") (.type "bool") = some false from kit_ty (by decide +kernel)), (show PySem.W.kitOne K (.type "tuple") (.type "str") = some false from kit_ty (by decide +kernel)), (show PySem.W.kitOne K (.type "tuple") (.type "tuple") = some true from kit_ty (by decide +kernel)), (show PySem.W.kitOne K (.type "tuple") (.type "list") = some false from kit_ty (by decide +kernel))⟩
    rcases hs with (h | ⟨o, h⟩) | ⟨o, its, n, h1, h2, _⟩
    · exact .base (.tup h)
    · exact .fTuple h
    · exact .kTuple h1 h2
theorem SqT_same {K : PySem.W.Frag} {H H' : Hp} {a : Addr} {xs : List V} (s : Same H H') (h : SqT K H a xs) : SqT K H' a xs := by
  rcases h with (h | ⟨o, h⟩) | h
  · exact .inl (.inl (s _ _ h))
  · exact .inl (.inr ⟨o, s _ _ h⟩)
  · exact .inr h
mutual
theorem dp_same {K : PySem.W.Frag} {H H' : Hp} (s : Same H H') : ∀ (d : PyData) (x : V), Dp K H x d → Dp K H' x d
  | .none, _, h => by cases h; exact .non
  | .bool _, _, h => by cases h; exact .bl _
  | .int _, _, h => by cases h; exact .int _
  | .str _, _, h => by cases h; exact .str _
  | .list ds, _, h => by
    cases h with
    | lst hs ha => exact .lst (s.seq hs) (dpAll_same s ds _ ha)
  | .tuple ds, _, h => by
    cases h with
    | tup hs ha => exact .tup (SqT_same s hs) (dpAll_same s ds _ ha)
  | .dict _, _, h => by cases h
theorem dpAll_same {K : PySem.W.Frag} {H H' : Hp} (s : Same H H') : ∀ (ds : List PyData) (xs : List V), DpAll K H xs ds → DpAll K H' xs ds
  | [], _, h => by cases h; exact .nil
  | d :: ds, _, h => by
    cases h with
    | cons a b => exact .cons (dp_same s d _ a) (dpAll_same s ds _ b)
end
theorem boot_isi : bootBuiltins "isinstance" = some (.builtin "isinstance") := by decide +kernel
end Sg

set_option Elab.async false
set_option linter.all false
set_option maxRecDepth 100000
set_option maxHeartbeats 4000000
namespace Sg
open PySem PySem.Spec PyProof.Rows L2
open HT
section
variable {prog : Program} {w : World} {A : Around} {E : Value → Shared → Prop} {s : Shared}
/-- t[lo:hi] that takes all of a tuple is the tuple itself -/
theorem tup_all {t sl : Addr} {items : Array Value} {vl vu : Value} {lo hi : Option Int} {Q : Value → Shared → Prop} (ht : IsTup s.heap t items) (hs : s.heap.IsSliceOf sl vl vu .none) (pl : IsPart vl lo) (pu : IsPart vu hi)
    (h1 : sIx items.size 0 lo = 0) (h2 : sIx items.size items.size hi = items.size) (h : Q (.ref t) s) : wpAny (model prog w) A (getItem (.ref t) (.ref sl)) Q E s := by
  obtain ⟨os, hos, hcs, hds⟩ := id hs
  have hTs : s.TypeIs (.ref sl) "slice" := ⟨os, hos, hcs⟩
  unfold getItem
  try with_reducible refine wpAny_holding ?_
  first | refine wpAny_bind (wpAny_pure ?_) | skip
  refine wpAny_bind (wpAny_sequenceKey ht.typeIs (by decide) ?_)
  refine wpAny_bind (wpAny_callSpecial?_slot (name := Str.ofString "__getitem__") ht.typeIs PyProof.Rows.slot_tuple_getitem
    (wpAny_call_entry PyProof.Rows.slot_tuple_getitem ht.typeIs entry_tuple_getitem ?_ (args_tuple_getitem _ _)))
  show wpAny _ _ (Builtin.Tuple.tupleItemsOf (.ref t) >>= _) _ _ s
  refine wpAny_bind (tupleItemsOf_ ht (wpAny_bind (wpAny_typeOf hTs ?_)))
  rw [if_pos (by decide)]
  refine wpAny_bind (sliceApplied_gen hs pl pu ?_)
  rw [h1, h2]
  show wpAny _ _ (if (((0 : Nat) : Int) == 0 && (1 : Int) == 1 && (items.size - 0) == items.size) = true then _ else _) _ _ s
  rw [if_pos (by simp)]
  show wpAny _ _ (Builtin.Tuple.tupleIsExact (.ref t) >>= _) _ _ s
  refine wpAny_bind (m := Builtin.Tuple.tupleIsExact _) ?_
  unfold Builtin.Tuple.tupleIsExact
  refine wpAny_bind (wpAny_typeOf ht.typeIs (wpAny_pure ?_))
  rw [if_pos (by decide)]
  exact wpAny_bind (wpAny_rule (wpAny_pure ⟨_, rfl, wpAny_pure h⟩))
end
section
variable {X : Cx}
/-- t[lo:hi], a part or all of a tuple -/
def rSlA (K : PySem.W.Frag) : V → Option Int → Option Int → Hp → VK → Prop := fun x lo hi H Q => ∃ a xs, x = .ref a ∧ SqT K H a xs ∧ ∀ p H', Same H H' → SqT K H' p (cutV xs lo hi) → Q (.ref p) H'
theorem sl_any : SlR X (rSlA X.K) := by
  intro pins s σ H x v vl vu lo hi sl Q I rx hs pl pu h
  obtain ⟨a, xs, rfl, hx, q⟩ := h
  by_cases hw : sIx xs.length 0 lo = 0 ∧ sIx xs.length xs.length hi = xs.length
  · cases rx
    obtain ⟨its, r, ht, hz⟩ := I.tuple hx
    have hlen : its.toArray.size = xs.length := by rw [List.size_toArray]; exact r.length.symm
    refine ⟨"tuple", _, PyProof.Rows.slot_tuple_getitem.lookup, ht.typeIs, ?_⟩
    refine tup_all ht hs pl pu (by rw [hlen]; exact hw.1) (by rw [hlen]; exact hw.2) ⟨.ref a, H, I, rfl, q a H (Same.refl H) ?_⟩
    have e : cutV xs lo hi = xs := by
      unfold cutV
      rw [hw.1, hw.2]
      simp
    rw [e]
    exact hx
  · exact sl_tup pins s σ H (.ref a) v vl vu lo hi sl Q I rx hs pl pu ⟨a, xs, rfl, hx, hw, fun p hp => q p _ (same_new hp) (SqT.of upd_same)⟩
/-- x is b, x is not b: b True or False -/
def rIsB (neg : Bool) : R2 := fun x y H Q => ∃ b c, y = .bl b ∧ x = .bl c ∧ Q (.bl (if neg then !decide (c = b) else decide (c = b))) H
theorem op_isB : OpR X (compareOp .Is) (rIsB false) := by
  intro pins s σ H x y v u Q I rx ry h
  obtain ⟨b, c, rfl, rfl, q⟩ := h
  cases rx
  cases ry
  have e : (Value.bool c == Value.bool b) = decide (c = b) := by cases b <;> cases c <;> rfl
  exact wpAny_is_plain rfl ⟨.bl (decide (c = b)), H, I, by rw [e]; rfl, q⟩
theorem op_isNotB : OpR X (compareOp .IsNot) (rIsB true) := by
  intro pins s σ H x y v u Q I rx ry h
  obtain ⟨b, c, rfl, rfl, q⟩ := h
  cases rx
  cases ry
  have e : (Value.bool c == Value.bool b) = decide (c = b) := by cases b <;> cases c <;> rfl
  show wpAny _ _ ((isSame (Value.bool c) (Value.bool b)) >>= fun z => pure (Value.bool (!z))) _ _ s
  exact wpAny_bind (wpAny_isSame_plain rfl (wpAny_pure ⟨.bl (!decide (c = b)), H, I, by rw [e]; rfl, q⟩))
end
section
variable {K : PySem.W.Frag} {σ : L2.St} {H1 : Hp} {D a b : Addr} {vs : List Nat} {j1 j2 : Nat} {xs ys : List V} {te : TE} {Qd : Hp → Prop}
theorem lc_zipS (bs : List Bool) (hl : xs.length = ys.length) (hlen : bs.length = xs.length) (hD : H1 D = Option.none) (hx : SqT K H1 a xs) (hy : SqT K H1 b ys) (hw : ∀ x y, wipe (((wipe σ vs).set j1 (some x)).set j2 (some y)) vs = wipe σ vs) (hz : xs.length ≤ 1000)
    (he : ∀ (i : Nat) (x y : V) (bb : Bool) (H' : Hp) (Q' : VK), xs[i]? = some x → ys[i]? = some y → bs[i]? = some bb → Same H1 H' → (∀ H'', Same H' H'' → Q' (.bl bb) H'') → te (((wipe σ vs).set j1 (some x)).set j2 (some y)) H' Q')
    (hd : ∀ H', Same H1 H' → H' D = some (.lst (bs.map V.bl)) → Qd H') :
    ∃ W : Nat → Nat → Hp → Prop, (∃ m, W 0 m (upd H1 D (.lst []))) ∧ ∀ i m H, W i m H →
      ((RZ.ItzT K a b).stop i H ∧ Qd H) ∨ ((RZ.ItzT K a b).go i H ∧ ∃ Nx : Hp → Prop, (∀ H', Nx H' → ∃ m', m' < m ∧ W (i + 1) m' H') ∧ ∀ x H', (RZ.ItzT K a b).yld i H x H' → gTup K 2 (gCons (gName j1) (gCons (gName j2) gNil)) x (wipe σ vs) H' fun σ2 H2 => wipe σ2 vs = wipe σ vs ∧ tYes σ2 H2 fun b H3 =>
        if b = true then te σ2 H3 fun y H4 => ∃ acc, H4 D = some (.lst acc) ∧ acc.length < sizeLine ∧ Nx (upd H4 D (.lst (acc ++ [y]))) else Nx H3) := by
  refine ⟨fun i m H => m = xs.length - i ∧ i ≤ xs.length ∧ Same H1 H ∧ H D = some (.lst ((bs.map V.bl).take i)), ⟨xs.length, by simp, Nat.zero_le _, same_new hD, upd_same⟩, ?_⟩
  rintro i m H ⟨rfl, hi, sm, hDl⟩
  have hxa := SqT_same sm hx
  have hyb := SqT_same sm hy
  by_cases hlt : i < xs.length
  · have hix : xs[i]? = some xs[i] := List.getElem?_eq_getElem hlt
    have hiy : ys[i]? = some (ys[i]'(by omega)) := List.getElem?_eq_getElem (by omega)
    have hib : bs[i]? = some (bs[i]'(by omega)) := List.getElem?_eq_getElem (by omega)
    refine .inr ⟨⟨xs, ys, _, _, hxa, hyb, hix, hiy⟩, fun H' => i + 1 ≤ xs.length ∧ Same H1 H' ∧ H' D = some (.lst ((bs.map V.bl).take (i + 1))), fun H' p' => ⟨xs.length - (i + 1), by omega, rfl, p'⟩, ?_⟩
    rintro x H' ⟨T, x0, y0, rfl, hT, rfl, f1, f2⟩
    have e1 := f1 _ hxa
    have e2 := f2 _ hyb
    have s2 := same_new (o := .tup [x0, y0]) hT
    refine ⟨T, _, rfl, SqT.of upd_same, rfl, _, _, rfl, _, _, rfl, rfl, hw _ _, yesIte ?_⟩
    refine he i x0 y0 _ _ _ e1 e2 hib (sm.trans s2) fun H'' s3 => ⟨_, s3 _ _ (s2 _ _ hDl), ?_, by omega, ?_, ?_⟩
    · rw [List.length_take]; exact small1000 (by omega)
    · intro y o hy'
      rw [upd_ne (ne_of_none hy' hD)]
      exact s3 _ _ (s2 _ _ (sm _ _ hy'))
    · rw [upd_same, List.take_add_one, List.getElem?_map, hib]; rfl
  · have e : i = xs.length := by omega
    refine .inl ⟨⟨xs, ys, hxa, hyb, .inl (by omega)⟩, hd H sm ?_⟩
    rw [hDl, e, List.take_of_length_le (by rw [List.length_map]; omega)]
end
theorem dpAll_len {K : PySem.W.Frag} {H : Hp} : ∀ {xs : List V} {ds : List PyData}, DpAll K H xs ds → xs.length = ds.length
  | _, _, .nil => rfl
  | _, _, .cons _ b => by rw [List.length_cons, List.length_cons, dpAll_len b]
theorem dpAll_cons {K : PySem.W.Frag} {H : Hp} {xs : List V} {d : PyData} {ds : List PyData} (h : DpAll K H xs (d :: ds)) : ∃ x xs', xs = x :: xs' ∧ Dp K H x d ∧ DpAll K H xs' ds := by
  cases h with
  | cons a b => exact ⟨_, _, rfl, a, b⟩
theorem dpAll_nil {K : PySem.W.Frag} {H : Hp} {xs : List V} (h : DpAll K H xs []) : xs = [] := by cases h; rfl
theorem dp_tup {K : PySem.W.Frag} {H : Hp} {x : V} {d : PyData} (h : Dp K H x d) (t : tupB d = true) : ∃ a xs ds, x = .ref a ∧ d = .tuple ds ∧ SqT K H a xs ∧ DpAll K H xs ds := by
  cases h <;> first | exact ⟨_, _, _, rfl, rfl, ‹_›, ‹_›⟩ | cases t
theorem dpAll_get {K : PySem.W.Frag} {H : Hp} : ∀ {xs : List V} {ds : List PyData} {i : Nat} {x : V}, DpAll K H xs ds → xs[i]? = some x → ∃ d, ds[i]? = some d ∧ Dp K H x d
  | _, _, i, x, .nil, h => by simp at h
  | _, _, 0, x, .cons a b, h => ⟨_, rfl, by simp at h; subst h; exact a⟩
  | _, _, i + 1, x, .cons a b, h => by
    obtain ⟨d, e1, e2⟩ := dpAll_get b (i := i) (by simpa using h)
    exact ⟨d, by simpa using e1, e2⟩
theorem cut_take {xs : List V} {n : Nat} (h : n ≤ xs.length) : cutV xs Option.none (some (n : Int)) = xs.take n := by
  unfold cutV
  rw [show HT.sIx xs.length 0 none = 0 from HT.sIx_none _ _, HT.sIx_nat, Nat.min_eq_left h]
  simp
theorem cut_drop {xs : List V} {n : Nat} (h : n ≤ xs.length) : cutV xs (some (n : Int)) Option.none = xs.drop n := by
  unfold cutV
  rw [show HT.sIx xs.length xs.length none = xs.length from HT.sIx_none _ _, HT.sIx_nat, Nat.min_eq_left h]
  exact List.take_of_length_le (by rw [List.length_drop]; omega)
theorem shaped_of {d : PyData} (h : d.canLay0 = true) (h' : d.depth ≤ 64) : SeqAt.shaped d = true := by
  show (d.canLay0 && decide (d.depth ≤ 64)) = true
  rw [Bool.and_eq_true]; exact ⟨h, decide_eq_true h'⟩
abbrev cntL : List Int := [1, 2, 1, 3, 2, 1, 2, 1, 2, 2, 1, 3]
end Sg

set_option Elab.async false
set_option linter.all false
set_option maxRecDepth 100000
set_option maxHeartbeats 4000000
/-! match: patterns by values, what they bind by the names' places -/
namespace Sg
open PySem PySem.Spec PyProof.Rows L2
def BindOk (X : Cx) (b : Str × Value) (c : Nat × V) : Prop := X.N[c.1]? = some b.1 ∧ Loc X.env.scope b.1 ∧ (X.fn b.1 = true ∨ X.env.scope.names.lookup b.1 = some .local) ∧ RelV c.2 b.2
inductive OB (X : Cx) : Option (List (Str × Value)) → Option (List (Nat × V)) → Prop
  | none : OB X none none
  | some {bs cs} : Paired (BindOk X) bs cs → OB X (some bs) (some cs)
abbrev TPt := V → Hp → (Option (List (Nat × V)) → Prop) → Prop
abbrev TPts := List V → Hp → (Option (List (Nat × V)) → Prop) → Prop
structure PPt (X : Cx) (p : Pattern) (t : TPt) : Prop where
  run : ∀ (pins : List (Addr × Obj)) (s : Shared) (σ : L2.St) (H : Hp) (v : V) (u : Value) (Q : Option (List (Nat × V)) → Prop), Inv X pins σ H s → RelV v u → t v H Q →
    wpAny (model X.prog X.w) X.A (matchPattern p X.env u) (fun r s' => ∃ o, Inv X pins σ H s' ∧ OB X r o ∧ Q o) X.xe s
structure PPts (X : Cx) (ps : List Pattern) (t : TPts) : Prop where
  run : ∀ (pins : List (Addr × Obj)) (s : Shared) (σ : L2.St) (H : Hp) (vs : List V) (us : List Value) (Q : Option (List (Nat × V)) → Prop), Inv X pins σ H s → Vals vs us → t vs H Q →
    wpAny (model X.prog X.w) X.A (matchEach ps X.env us) (fun r s' => ∃ o, Inv X pins σ H s' ∧ OB X r o ∧ Q o) X.xe s
def mWild : TPt := fun _ _ Q => Q (some [])
def mCap (i : Nat) : TPt := fun v _ Q => Q (some [(i, v)])
def mStr (x : Str) : TPt := fun v _ Q => ∃ y, v = .str y ∧ Q (if y = x then some [] else none)
def mNone : TPt := fun v _ Q => Q (if v = .non then some [] else none)
def mBool (b : Bool) : TPt := fun v _ Q => ∃ c, v = .bl c ∧ Q (if c = b then some [] else none)
def mNil : TPts := fun _ _ Q => Q (some [])
def mCons (t : TPt) (u : TPts) : TPts := fun vs H Q => ∃ v r, vs = v :: r ∧ t v H fun o => match o with
  | none => Q none
  | some bs => u r H fun o' => match o' with
    | none => Q none
    | some cs => Q (some (bs ++ cs))
def mSeq (K : PySem.W.Frag) (n : Nat) (t : TPts) : TPt := fun v H Q => ∃ a xs, v = .ref a ∧ SqT K H a xs ∧ (xs.length = n → t xs H Q) ∧ (xs.length ≠ n → Q none)
theorem Paired.app {α β : Type} {F : α → β → Prop} : ∀ {a : List α} {b : List β} {c : List α} {d : List β}, Paired F a b → Paired F c d → Paired F (a ++ c) (b ++ d)
  | _, _, _, _, .nil, q => q
  | _, _, _, _, .cons r t, q => .cons r (Paired.app t q)
section
variable {X : Cx}
theorem mp_wild {pos : Pos} : PPt X (.MatchAs none none pos) mWild := ⟨fun pins s σ H v u Q I r h => wpAny_matchPattern_Capture ⟨_, I, .some .nil, h⟩⟩
theorem mp_cap {i : Nat} {x : Str} {pos : Pos} (hi : X.N[i]? = some x) (hx : Loc X.env.scope x) (hf : X.fn x = true ∨ X.env.scope.names.lookup x = some .local := by first | exact .inl rfl | exact .inr rfl | assumption) : PPt X (.MatchAs none (some x) pos) (mCap i) :=
  ⟨fun pins s σ H v u Q I r h => wpAny_matchPattern_Capture ⟨_, I, .some (.cons ⟨hi, hx, hf, r⟩ .nil), h⟩⟩
theorem mp_str {x : Str} {j : Nat} {p pos : Pos} : PPt X (.MatchValue (.Constant (.str x) j p) pos) (mStr x) := by
  refine ⟨fun pins s σ H v u Q I r h => ?_⟩
  obtain ⟨y, rfl, q⟩ := h
  refine wpAny_matchPattern_Value (thn ((pe_str (X := X)).run pins s σ H (fun v' H' => v' = .str x ∧ H' = H) I ⟨rfl, rfl⟩) fun u2 s2 ⟨v2, H2, I2, r2, e2, e3⟩ => ?_)
  subst e2 e3
  refine thn (op_eq (X := X) pins s2 σ H2 (.str y) (.str x) u u2 (fun v' H' => v' = .bl (decide (V.str y = V.str x)) ∧ H' = H2) I2 r r2 ⟨rfl, rfl, rfl⟩) fun c s3 ⟨v3, H3, I3, r3, e4, e5⟩ => ?_
  subst e4 e5
  cases r3
  refine wpAny_truthy_bool ?_
  by_cases e : y = x
  · subst e
    rw [decide_eq_true rfl]
    rw [if_pos rfl] at q
    exact ⟨_, I3, .some .nil, q⟩
  · rw [decide_eq_false (fun z => e (by cases z; rfl))]
    rw [if_neg e] at q
    exact ⟨_, I3, .none, q⟩
theorem mp_none {pos : Pos} : PPt X (.MatchSingleton .none pos) mNone := by
  refine ⟨fun pins s σ H v u Q I r h => ?_⟩
  rw [arm_matchPattern_MatchSingleton]
  refine wpAny_pure ?_
  cases v with
  | non => cases r; exact ⟨_, I, .some .nil, h⟩
  | bl b => cases r; exact ⟨_, I, .none, h⟩
  | int i => obtain ⟨t, rfl⟩ := r; exact ⟨_, I, .none, h⟩
  | str i => obtain ⟨t, rfl⟩ := r; exact ⟨_, I, .none, h⟩
  | byt i => obtain ⟨t, rfl⟩ := r; exact ⟨_, I, .none, h⟩
  | flt i => obtain ⟨t, rfl⟩ := r; exact ⟨_, I, .none, h⟩
  | ref a => cases r; exact ⟨_, I, .none, h⟩
  | ty n => cases r; exact ⟨_, I, .none, h⟩
theorem mp_bool {b : Bool} {pos : Pos} : PPt X (.MatchSingleton (.bool b) pos) (mBool b) := by
  refine ⟨fun pins s σ H v u Q I r h => ?_⟩
  obtain ⟨c, rfl, q⟩ := h
  cases r
  rw [arm_matchPattern_MatchSingleton]
  refine wpAny_pure ?_
  cases b <;> cases c
  · exact ⟨_, I, .some .nil, q⟩
  · exact ⟨_, I, .none, q⟩
  · exact ⟨_, I, .none, q⟩
  · exact ⟨_, I, .some .nil, q⟩
theorem mps_nil : PPts X [] mNil := ⟨fun pins s σ H vs us Q I r h => wpAny_matchEach_nil ⟨_, I, .some .nil, h⟩⟩
theorem mps_cons {p : Pattern} {ps : List Pattern} {t : TPt} {u : TPts} (h1 : PPt X p t) (h2 : PPts X ps u) (hp : p.isStar = false := by rfl) : PPts X (p :: ps) (mCons t u) := by
  refine ⟨fun pins s σ H vs us Q I r h => ?_⟩
  obtain ⟨v, vr, rfl, h⟩ := h
  cases r with
  | cons r0 rr =>
    refine wpAny_matchEach_cons (thn (h1.run pins s σ H v _ _ I r0 h) fun r1 s1 ⟨o, I1, ob, q⟩ => ?_) hp
    cases ob with
    | none => exact ⟨_, I1, .none, q⟩
    | some pr =>
      refine thn (h2.run pins s1 σ H vr _ _ I1 rr q) fun r2 s2 ⟨o2, I2, ob2, q2⟩ => ?_
      cases ob2 with
      | none => exact ⟨_, I2, .none, q2⟩
      | some pr2 => exact ⟨_, I2, .some (Paired.app pr pr2), q2⟩
theorem mp_seq {ps : List Pattern} {pos : Pos} {t : TPts} {n : Nat} (hc : X.calm = true) (hs : PPts X ps t) (hn : ps.length = n := by rfl) (hstar : ps.findIdx? (·.isStar) = none := by rfl)
    (hwild : (ps.all fun p => p.isWildcard || (p.isStar && p.names.isEmpty)) = false := by rfl) : PPt X (.MatchSequence ps pos) (mSeq X.K n t) := by
  refine ⟨fun pins s σ H v u Q I r h => ?_⟩
  obtain ⟨a, xs, rfl, hq, h1, h2⟩ := h
  cases r
  obtain ⟨its, rv, ht, hz⟩ := I.tuple hq
  have hl : its.toArray.size = xs.length := by rw [List.size_toArray]; exact rv.length.symm
  have h63 := line63
  by_cases e : xs.length = n
  · refine matchSeq_tuple_hit ht (by rw [hl]; omega) (by rw [hl, hn]; exact e) ?_ hstar hwild
    rw [show ps.length = its.toArray.size by rw [hl, hn, e]]
    have I1 : Inv X pins σ H { s with toks := s.toks + 1 + 1 } := I.tok _
    refine unpackItems_tuple (I.ok.hd hc) ht fun h' hx => ?_
    have I2 : Inv X pins σ H { s with heap := h', toks := s.toks + 1 + 1 } := I.kept (t' := s.toks + 1 + 1) fun b o e => hx b o (Nat.ne_of_lt (Heap.lt_size e)) e
    exact hs.run pins _ σ H xs _ Q I2 rv (h1 e)
  · exact matchSeq_tuple_miss ht (by rw [hl]; omega) (by rw [hl, hn]; exact e) ⟨_, I.tok _, .none, h2 e⟩ hstar hwild
/-! ### the cases -/
abbrev TCs := V → TS
structure PCs (X : Cx) (cs : List MatchCase) (t : TCs) : Prop where
  run : ∀ (pins : List (Addr × Obj)) (s : Shared) (σ : L2.St) (H : Hp) (D : Ends) (v : V) (u : Value) (first : Bool), Inv X pins σ H s → RelV v u → t v D σ H →
    wpAny (model X.prog X.w) X.A (matchCases cs X.env u first) (SP X pins D) X.xe s
def setAll (σ : L2.St) (bs : List (Nat × V)) : L2.St := bs.foldl (fun s b => s.set b.1 (some b.2)) σ
def cNil : TCs := fun _ D σ H => D.nx σ H
def cCons (tp : TPt) (tb : TS) (rest : TCs) : TCs := fun v D σ H => tp v H fun o => match o with
  | none => rest v D σ H
  | some bs => tb D (setAll σ bs) H
theorem pcs_nil : PCs X [] cNil := ⟨fun pins s σ H D v u f I r h => wpAny_matchCases_nil ⟨σ, H, I, h⟩⟩
theorem bind_all (hN : X.N.Nodup) {pins : List (Addr × Obj)} {H : Hp} : ∀ {bs : List (Str × Value)} {cs : List (Nat × V)}, Paired (BindOk X) bs cs → ∀ {σ : L2.St} {s : Shared} {Q : Unit → Shared → Prop}, Inv X pins σ H s →
    (∀ s', Inv X pins (setAll σ cs) H s' → Q () s') → wpAny (model X.prog X.w) X.A (assignInOrder (bs.map fun (n, _) => bindName X.env n) (bs.map (·.2))) Q X.xe s
  | _, _, .nil, σ, s, Q, I, h => wpAny_assignInOrder_none (h s I)
  | _, _, .cons (a := b) (b := c) r t, σ, s, Q, I, h => by
    obtain ⟨x, u⟩ := b
    obtain ⟨i, v⟩ := c
    obtain ⟨h1, h2, h3, h4⟩ := r
    refine wpAny_assignInOrder_more (wpAny_bindName (store_ok I hN h1 h2 h4 (fun s' I' => ?_) h3))
    exact bind_all hN t I' h
theorem pcs_cons {p : Pattern} {body : List Stmt} {rest : List MatchCase} {tp : TPt} {tb : TS} {tr : TCs} (hN : X.N.Nodup) (hp : PPt X p tp) (hb : PSs X body tb) (hr : PCs X rest tr) : PCs X (⟨p, none, body⟩ :: rest) (cCons tp tb tr) := by
  refine ⟨fun pins s σ H D v u f I r h => ?_⟩
  refine wpAny_matchCases_cons (thn (hp.run pins s σ H v u _ I r h) fun o s1 ⟨c, I1, ob, q⟩ => ?_)
  cases ob with
  | none => exact hr.run pins s1 σ H D v u false I1 r q
  | some pr => exact bind_all hN pr I1 fun s' I' => hb.run pins s' _ H D I' q
def tMatch (te : TE) (tc : TCs) : TS := fun D σ H => te σ H fun v H1 => tc v D σ H1
theorem ps_match {e : Expr} {cs : List MatchCase} {pos : Pos} {te : TE} {tc : TCs} (he : PE X e te) (hc : PCs X cs tc) : PS X (.Match e cs pos) (tMatch te tc) := by
  refine ⟨fun pins s σ H D I h => ?_⟩
  exact wpAny_Match (thn (he.run pins s σ H _ I h) fun u s1 ⟨v, H1, I1, r1, q1⟩ => hc.run pins s1 σ H1 D v u true I1 r1 q1)
/-- a case with a guard -/
def cGuard (tp : TPt) (tg : TT) (tb : TS) (rest : TCs) : TCs := fun v D σ H => tp v H fun o => match o with
  | none => rest v D σ H
  | some bs => tg (setAll σ bs) H fun ok H' => if ok = true then tb D (setAll σ bs) H' else rest v D (setAll σ bs) H'
theorem pcs_guard {p : Pattern} {ge : Expr} {body : List Stmt} {rest : List MatchCase} {tp : TPt} {tg : TT} {tb : TS} {tr : TCs} (hN : X.N.Nodup) (hp : PPt X p tp) (hg : PT X ge tg) (hb : PSs X body tb) (hr : PCs X rest tr) : PCs X (⟨p, some ge, body⟩ :: rest) (cGuard tp tg tb tr) := by
  refine ⟨fun pins s σ H D v u f I r h => ?_⟩
  refine wpAny_matchCases_cons (thn (hp.run pins s σ H v u _ I r h) fun o s1 ⟨c, I1, ob, q⟩ => ?_)
  cases ob with
  | none => exact hr.run pins s1 σ H D v u false I1 r q
  | some pr =>
    refine bind_all hN pr I1 fun s' I' => ?_
    refine thn (hg.run pins s' _ H _ I' q) fun ok s2 ⟨H2, I2, q2⟩ => ?_
    cases ok with
    | true =>
      rw [if_pos rfl] at q2
      exact hb.run pins s2 _ H2 D I2 q2
    | false =>
      rw [if_neg Bool.false_ne_true] at q2
      exact hr.run pins s2 _ H2 D v u false I2 r q2
def mInt (n : Int) : TPt := fun v _ Q => ∃ y, v = .int y ∧ Q (if y = n then some [] else none)
theorem mp_int {n : Int} {j : Nat} {p pos : Pos} : PPt X (.MatchValue (.Constant (.int n) j p) pos) (mInt n) := by
  refine ⟨fun pins s σ H v u Q I r h => ?_⟩
  obtain ⟨y, rfl, q⟩ := h
  refine wpAny_matchPattern_Value (thn ((pe_int (X := X)).run pins s σ H (fun v' H' => v' = .int n ∧ H' = H) I ⟨rfl, rfl⟩) fun u2 s2 ⟨v2, H2, I2, r2, e2, e3⟩ => ?_)
  subst e2 e3
  refine thn (op_eq (X := X) pins s2 σ H2 (.int y) (.int n) u u2 (fun v' H' => v' = .bl (decide (V.int y = V.int n)) ∧ H' = H2) I2 r r2 ⟨rfl, rfl, rfl⟩) fun c s3 ⟨v3, H3, I3, r3, e4, e5⟩ => ?_
  subst e4 e5
  cases r3
  refine wpAny_truthy_bool ?_
  by_cases e : y = n
  · subst e
    rw [decide_eq_true rfl]
    rw [if_pos rfl] at q
    exact ⟨_, I3, .some .nil, q⟩
  · rw [decide_eq_false (fun z => e (by cases z; rfl))]
    rw [if_neg e] at q
    exact ⟨_, I3, .none, q⟩
end
end Sg

set_option Elab.async false
set_option linter.all false
set_option maxRecDepth 100000
set_option maxHeartbeats 4000000
/-! tuples without a dict of their own; dict(t) of such; x in t of data; d != {} -/
namespace Sg
open PySem PySem.Spec PyProof.Rows L2
def SqP (K : PySem.W.Frag) (H : Hp) (a : Addr) (xs : List V) : Prop :=
  (∃ o : Obj, H a = some (.frz o (.tup xs)) ∧ o.dict = none) ∨
    ∃ (o : Obj) (its : Array Value) (n : Nat), K.lookup a = some o ∧ o.cls = .type "tuple" ∧ o.dict = none ∧ o.data = .seq its n ∧ its.size ≤ sizeLine ∧ Vals xs its.toList
theorem SqP.t {K : PySem.W.Frag} {H : Hp} {a : Addr} {xs : List V} (h : SqP K H a xs) : SqT K H a xs := by
  rcases h with ⟨o, h, _⟩ | ⟨o, its, n, h1, h2, _, h3, h4, h5⟩
  · exact .inl (.inr ⟨o, h⟩)
  · exact .inr ⟨o, its, n, h1, h2, h3, h4, h5⟩
theorem SqP.plain {X : Cx} {pins : List (Addr × Obj)} {σ : L2.St} {H : Hp} {s : Shared} {a : Addr} {xs : List V} (I : Inv X pins σ H s) (h : SqP X.K H a xs) : ∃ its : List Value, Vals xs its ∧ PlainSeq "tuple" s.heap a its.toArray ∧ xs.length ≤ sizeLine := by
  rcases h with ⟨o, h, hd⟩ | ⟨o, its, n, h1, h2, hd, h3, h4, h5⟩
  · obtain ⟨e, z, its, r, o', e', hc, n, hdat⟩ := I.hok a _ h
    rw [e] at e'; cases e'
    exact ⟨its, r, ⟨o, n, e, hc, hd, hdat⟩, z⟩
  · refine ⟨its.toList, h5, ⟨o, n, I.kIn a o h1, h2, hd, by simpa using h3⟩, ?_⟩
    have e := h5.length
    simp only [Array.length_toList] at e
    omega
section
variable {X : Cx}
theorem pairs_of2 {pins : List (Addr × Obj)} {σ : L2.St} {H : Hp} {s : Shared} (I : Inv X pins σ H s) : ∀ {ps : List Addr} {kvs : List (Key × V)}, Paired (fun p kv => SqT X.K H p [kV kv.1, kv.2]) ps kvs →
    ∃ (prs : List (Key × Value)) (us : List (Value × Value)), KV kvs prs ∧ prs.length = ps.length ∧ us.length = ps.length ∧ ∀ (j : Nat) (k v : Value), us[j]? = some (k, v) → (∃ b : Addr, ps[j]? = some b ∧ IsTup s.heap b #[k, v]) ∧ ∃ key, prs[j]? = some (key, v) ∧ keyIs key k = true
  | _, _, .nil => ⟨[], [], .nil, rfl, rfl, fun j k v e => by simp at e⟩
  | _, _, .cons (a := p) (b := kv) h t => by
    obtain ⟨prs, us, r, hl, hl2, hp⟩ := pairs_of2 I t
    obtain ⟨its, rv, ht, _⟩ := I.tuple h
    obtain ⟨u, y, ei, ru, ry⟩ := vals2 rv
    subst ei
    refine ⟨(kv.1, y) :: prs, (u, y) :: us, .cons ⟨rfl, ry⟩ r, by rw [List.length_cons, List.length_cons, hl], by rw [List.length_cons, List.length_cons, hl2], fun j k v e => ?_⟩
    cases j with
    | zero =>
      have e' : (u, y) = (k, v) := Option.some.inj e
      cases e'
      exact ⟨⟨p, rfl, ht⟩, kv.1, rfl, kV_is (P := X.prog) (w := X.w) ru⟩
    | succ j =>
      obtain ⟨⟨b, e1, e2⟩, key, e3, e4⟩ := hp j k v (by simpa using e)
      exact ⟨⟨b, by simpa using e1, e2⟩, key, by simpa using e3, e4⟩
def rDictT (K : PySem.W.Frag) : List V → Hp → VK → Prop := fun xs H Q => ∃ (a : Addr) (ps : List Addr) (kvs : List (Key × V)), xs = [.ref a] ∧ SqP K H a (ps.map V.ref) ∧ Paired (fun p kv => SqT K H p [kV kv.1, kv.2]) ps kvs ∧
    ∀ p, H p = none → Q (.ref p) (upd H p (.dK (mergeK [] kvs)))
/-- dict(t) of a tuple of pairs -/
theorem call_dictT (hcalm : X.calm = true) : CallR X (.type "dict") (rDictT X.K) := by
  intro pins s σ H xs us Q I r q
  obtain ⟨a, ps, kvs, ex, hq, hp, q⟩ := q
  subst ex
  obtain ⟨u, eu, rx⟩ := vals1 r
  subst eu
  cases rx
  obtain ⟨its, rv, pl, hz⟩ := hq.plain I
  have ei := refs_at rv
  subst ei
  rw [List.length_map] at hz
  obtain ⟨prs, us2, rel, hl, hl2, hpr⟩ := pairs_of2 I hp
  have hh := I.ok.hd hcalm
  refine PySem.call_dict_pairs (knd := mixKind X.prog X.w) (kvs := prs) (PairArg.tuple a (ps.map Value.ref).toArray (fun j => ps.getD j 0) us2) hh ⟨pl, ?_, fun j k v e => ?_⟩ ⟨?_, fun j k v e => ?_⟩ ?_ fun h' tk hd' k => ?_
  · simp [hl2]
  · obtain ⟨⟨b, e1, e2⟩, _⟩ := hpr j k v e
    have e3 : ps.getD j 0 = b := by rw [List.getD_eq_getElem?_getD, e1]; rfl
    show _ = some (Value.ref (ps.getD j 0)) ∧ PairAt s.heap (ps.getD j 0) k v
    rw [e3]
    refine ⟨by simp [e1], .inl e2⟩
  · rw [hl, hl2]
  · obtain ⟨_, key, e3, e4⟩ := hpr j k v e
    exact ⟨key, e3, e4⟩
  · rw [hl2]; exact hz
  · have hm : (s.heap.objs.size == sysModules) = false := beq_eq_false_iff_ne.mpr (Nat.ne_of_gt I.big)
    have hlen : (mergeK [] kvs).length ≤ sizeLine := by
      refine Nat.le_trans (length_mergeK kvs []) ?_
      rw [List.length_nil, Nat.zero_add, rel.length, hl]
      exact hz
    exact ⟨.ref s.heap.objs.size, upd H s.heap.objs.size (.dK (mergeK [] kvs)), I.laid (t' := tk) (fun b o e => k b o (by simp) e) (Nat.le_refl _) (show ObjOk X.prog X.w _ _ _ (.dK (mergeK [] kvs)) from ⟨hlen, hm, merged [] prs, KV.merge rel .nil, hd'⟩), rfl, q _ (I.hok.fresh (Nat.le_refl _))⟩
/-- tuple(l) of a list: a new tuple without a dict of its own -/
def rTupP (K : PySem.W.Frag) : List V → Hp → VK → Prop := fun xs H Q => ∃ p ys, xs = [.ref p] ∧ SqL K H p ys ∧ ∀ (l : Addr) (o : Obj), H l = none → o.dict = none → Q (.ref l) (upd H l (.frz o (.tup ys)))
theorem call_tupP : CallR X (.type "tuple") (rTupP X.K) := by
  intro pins s σ H xs us Q I r h
  obtain ⟨p, ys, rfl, hq, q⟩ := h
  obtain ⟨u, rfl, rx⟩ := vals1 r
  cases rx
  obtain ⟨its, r', pl, hz⟩ := I.list hq
  have hlen := r'.length
  refine call_tuple_list pl.isList (fun h' kp => ?_) (by simp only [List.size_toArray] <;> omega)
  have I1 : Inv X pins σ H { s with heap := h' } := I.kept (t' := s.toks) kp
  have hget : (h'.push { cls := .type "tuple", data := .seq its.toArray }).get? h'.objs.size = some { cls := .type "tuple", data := .seq its.toArray } := Heap.get?_push_size _ rfl
  have I2 : Inv X pins σ (upd H h'.objs.size (.frz { cls := .type "tuple", data := .seq its.toArray } (.tup ys))) { s with heap := h'.push { cls := .type "tuple", data := .seq its.toArray } } :=
    I1.laid (t' := s.toks) (fun b o e => Heap.get?_push_of_some _ e) (Nat.le_refl _) (show ObjOk X.prog X.w _ _ _ (.frz { cls := .type "tuple", data := .seq its.toArray } (.tup ys)) from ⟨hget, hz, its, r', IsTup.new _ _⟩)
  exact ⟨.ref h'.objs.size, _, I2, rfl, q _ _ (I1.hok.fresh (Nat.le_refl _)) rfl⟩
/-- x in t, data of any depth -/
def rInT (K : PySem.W.Frag) : R2 := fun x y H Q => ∃ d ds, Dp K H x d ∧ Dp K H y (.tuple ds) ∧ SeqAt.shaped d = true ∧ SeqAt.shaped (.tuple ds) = true ∧ Q (.bl (ds.any fun z => PyData.eqv z d)) H
theorem op_inT (hu : X.A.units + 65 < cLine) : OpR X (compareOp .In) (rInT X.K) := by
  intro pins s σ H x y v u Q I rx ry h
  obtain ⟨d, ds, hd, he, sd, se, q⟩ := h
  obtain ⟨as, r1⟩ := Dp.reads I d x v hd rx
  obtain ⟨bs, r2⟩ := Dp.reads I (.tuple ds) y u he ry
  exact SeqAt.in_tuple_reads r2 r1 (SeqAt.canLay_of_shaped se) (SeqAt.canLay_of_shaped sd) (room_in_shaped sd hu) ⟨.bl _, H, I, rfl, q⟩
/-- d != {} -/
def rNeE : R2 := fun x y H Q => ∃ a b ks, x = .ref a ∧ y = .ref b ∧ H a = some (.dK ks) ∧ H b = some (.dK []) ∧ Q (.bl (!ks.isEmpty)) H
theorem op_neE (hu : X.A.units < cLine) : OpR X (compareOp .NotEq) rNeE := by
  intro pins s σ H x y v u Q I rx ry h
  obtain ⟨a, b, ks, rfl, rfl, ea, eb, q⟩ := h
  obtain rfl : v = Value.ref a := rx
  obtain rfl : u = Value.ref b := ry
  obtain ⟨_, ya, va, ra, da⟩ := (show ObjOk X.prog X.w H s.heap a (.dK ks) from I.hok a _ ea)
  obtain ⟨_, yb, vb, rb, db⟩ := (show ObjOk X.prog X.w H s.heap b (.dK []) from I.hok b _ eb)
  cases rb
  cases ra with
  | nil => exact PySem.W.keq_ne (knd := mixKind X.prog X.w) (r := true) ya yb da db hu (fun _ => hits_all (ks := []) (kvs := []) .nil .nil (fun p hp => nomatch hp)) (fin_bl I q (by simp))
  | cons h t => exact PySem.W.keq_ne (knd := mixKind X.prog X.w) (r := true) ya yb da db hu (fun e => by simp at e) (fin_bl I q (by simp))
end
end Sg

set_option Elab.async false
set_option linter.all false
set_option maxRecDepth 100000
set_option maxHeartbeats 4000000
namespace Sg
open PySem PySem.Spec PyProof.Rows L2
theorem cut_head {x1 x2 x3 x4 x5 : V} {r : List V} : cutV (x1 :: x2 :: x3 :: x4 :: x5 :: r) Option.none (some 5) = [x1, x2, x3, x4, x5] := by
  unfold cutV
  rw [show HT.sIx (x1 :: x2 :: x3 :: x4 :: x5 :: r).length 0 none = 0 from HT.sIx_none _ _, show (some (5 : Int)) = some ((5 : Nat) : Int) from rfl, HT.sIx_nat]
  rw [Nat.min_eq_left (by simp only [List.length_cons]; omega)]
  rfl
theorem cut_tail {x1 x2 x3 x4 x5 : V} {r : List V} : cutV (x1 :: x2 :: x3 :: x4 :: x5 :: r) (some 5) Option.none = r := by
  unfold cutV
  rw [show HT.sIx (x1 :: x2 :: x3 :: x4 :: x5 :: r).length (x1 :: x2 :: x3 :: x4 :: x5 :: r).length none = (x1 :: x2 :: x3 :: x4 :: x5 :: r).length from HT.sIx_none _ _, show (some (5 : Int)) = some ((5 : Nat) : Int) from rfl, HT.sIx_nat]
  rw [Nat.min_eq_left (by simp only [List.length_cons]; omega)]
  show (r.take _) = r
  exact List.take_of_length_le (by simp only [List.length_cons]; omega)
theorem cut_two {x1 x2 : V} {r : List V} : cutV (x1 :: x2 :: r) Option.none (some 2) = [x1, x2] := by
  unfold cutV
  rw [show HT.sIx (x1 :: x2 :: r).length 0 none = 0 from HT.sIx_none _ _, show (some (2 : Int)) = some ((2 : Nat) : Int) from rfl, HT.sIx_nat]
  rw [Nat.min_eq_left (by simp only [List.length_cons]; omega)]
  rfl
def answD (k : Str) (o : Int) : PyData := if k = "mark" then .none else if strIn k ["snap", "register"] = true then .tuple [.str "ok", .int o] else .tuple [.str "ok", .none]
def spFieldsOf (K : PySem.W.Frag) : Sp := fun vs H Q _ => ∃ (a : Addr) (x1 x2 x3 x4 x5 : V) (ys : List V), vs = [.ref a] ∧ SqT K H a (x1 :: x2 :: x3 :: x4 :: x5 :: ys) ∧ ∀ p H', Same H H' → SqT K H' p ys → Q (.ref p) H'
/-- the answer of a record, as data -/
def spAnswerOf (K : PySem.W.Frag) : Sp := fun vs H Q _ => ∃ (a : Addr) (o : Int) (k : Str) (r : List V), vs = [.ref a] ∧ SqT K H a (.int o :: .str k :: r) ∧ ∀ v H', Same H H' → Dp K H' v (answD k o) → Q v H'
/-! ### records and their effects, as data -/
inductive Bd
  | mark (d : PyData) | make (n z : Int) | remove (n : Int) | write (n p v : Int) | trim (n p : Int) | snap (n : Int) | drop (n s : Int) | register (n : Int)
  | leave (n : Int) (held : Bool) | reserve (n : Int) (w : Str) | release (n : Int) | preempt (n v : Int) (w : Option Str)
structure Rc where
  o : Int
  h : Int
  s : Int
  c : Int
  b : Bd
def wayD : Option Str → PyData
  | none => .none
  | some w => .str w
def kindS : Bd → Str
  | .mark _ => "mark" | .make _ _ => "make" | .remove _ => "remove" | .write _ _ _ => "write" | .trim _ _ => "trim" | .snap _ => "snap" | .drop _ _ => "drop" | .register _ => "register"
  | .leave _ _ => "leave" | .reserve _ _ => "reserve" | .release _ => "release" | .preempt _ _ _ => "preempt"
def fldD : Bd → List PyData
  | .mark d => [d] | .make n z => [.int n, .int z] | .remove n => [.int n] | .write n p v => [.int n, .int p, .int v] | .trim n p => [.int n, .int p] | .snap n => [.int n] | .drop n s => [.int n, .int s] | .register n => [.int n]
  | .leave n b => [.int n, .bool b] | .reserve n w => [.int n, .str w] | .release n => [.int n] | .preempt n v w => [.int n, .int v, wayD w]
abbrev Ef := List Key × PyData
def effB (o h : Int) : Bd → List Ef
  | .mark d => [([.inr "told", .inl h], d)]
  | .make n z => [([.inr "space", .inl n], .int z)]
  | .remove n => [([.inr "gone", .inl n], .int o)]
  | .write n p v => [([.inr "place", .inl n, .inl p], .int v)]
  | .trim n p => [([.inr "place", .inl n, .inl p], .none)]
  | .snap n => [([.inr "snap", .inl n, .inl o], .int o)]
  | .drop n s => [([.inr "snap", .inl n, .inl s], .none)]
  | .register n => [([.inr "key", .inl n, .inl h], .int o)]
  | .leave n false => [([.inr "key", .inl n, .inl h], .none)]
  | .leave n true => [([.inr "key", .inl n, .inl h], .none), ([.inr "hold", .inl n], .none)]
  | .reserve n w => [([.inr "hold", .inl n], .tuple [.int h, .str w])]
  | .release n => [([.inr "hold", .inl n], .none)]
  | .preempt n v none => [([.inr "key", .inl n, .inl v], .none)]
  | .preempt n v (some w) => [([.inr "key", .inl n, .inl v], .none), ([.inr "hold", .inl n], .tuple [.int h, .str w])]
def effH (r : Rc) : Ef := ([.inr "host", .inl r.h], .tuple [.int r.s, .int r.c, answD (kindS r.b) r.o])
def effR (r : Rc) : List Ef := effH r :: effB r.o r.h r.b
def RecAt (K : PySem.W.Frag) (H : Hp) (t : Addr) (r : Rc) : Prop := ∃ ys, SqT K H t (.int r.o :: .str (kindS r.b) :: .int r.h :: .int r.s :: .int r.c :: ys) ∧ DpAll K H ys (fldD r.b)
def EffAt (K : PySem.W.Frag) (H : Hp) (p : Addr) (e : Ef) : Prop := ∃ t v, H p = some (.tup [.ref t, v]) ∧ H t = some (.tup (e.1.map kV)) ∧ Dp K H v e.2
theorem EffAt.same {K : PySem.W.Frag} {H H' : Hp} {p : Addr} {e : Ef} (h : EffAt K H p e) (s : Same H H') : EffAt K H' p e := by
  obtain ⟨t, v, a, b, c⟩ := h
  exact ⟨t, v, s _ _ a, s _ _ b, dp_same s _ _ c⟩
theorem RecAt.same {K : PySem.W.Frag} {H H' : Hp} {t : Addr} {r : Rc} (h : RecAt K H t r) (s : Same H H') : RecAt K H' t r := by
  obtain ⟨ys, a, b⟩ := h
  exact ⟨ys, SqT_same s a, dpAll_same s _ _ b⟩
theorem Paired.imp2 {α β : Type} {F G : α → β → Prop} (f : ∀ a b, F a b → G a b) : ∀ {l : List α} {m : List β}, Paired F l m → Paired G l m
  | _, _, .nil => .nil
  | _, _, .cons r t => .cons (f _ _ r) (Paired.imp2 f t)
theorem dp_int {K : PySem.W.Frag} {H : Hp} {x : V} {n : Int} (h : Dp K H x (.int n)) : x = .int n := by cases h; rfl
theorem dp_strv {K : PySem.W.Frag} {H : Hp} {x : V} {n : Str} (h : Dp K H x (.str n)) : x = .str n := by cases h; rfl
theorem dp_bool {K : PySem.W.Frag} {H : Hp} {x : V} {n : Bool} (h : Dp K H x (.bool n)) : x = .bl n := by cases h; rfl
theorem dp_none {K : PySem.W.Frag} {H : Hp} {x : V} (h : Dp K H x .none) : x = .non := by cases h; rfl
/-- one effect (topic, value) made anew -/
theorem eff_one {K : PySem.W.Frag} {σ : L2.St} {H : Hp} {tk : TA} {tv : TE} {k : List Key} {d : PyData} {Q : VK} (hn : k.length ≤ 3) (hk : ∀ R : List V → Hp → Prop, R (k.map kV) H → tk σ H R)
    (hv : ∀ H' (R : VK), Same H H' → (∀ H'' v, Same H' H'' → Dp K H'' v d → R v H'') → tv σ H' R) (q : ∀ p H', Same H H' → EffAt K H' p (k, d) → Q (.ref p) H') : tTup (tCons (tTup tk) (tCons tv tNil)) σ H Q := by
  refine hk _ ⟨by rw [List.length_map]; exact Nat.le_of_lt (small1000 (by omega)), fun t ht => ?_⟩
  have s1 := same_new (o := .tup (k.map kV)) ht
  refine hv _ _ s1 fun H2 v s2 hd => ⟨by show 2 ≤ sizeLine; decide, fun p hp => ?_⟩
  have s3 := same_new (o := .tup [V.ref t, v]) hp
  exact q p _ (s1.trans (s2.trans s3)) ⟨t, v, upd_same, s3 _ _ (s2 _ _ upd_same), dp_same s3 _ _ hd⟩
theorem eff_list1 {K : PySem.W.Frag} {σ : L2.St} {H : Hp} {te : TE} {e : Ef} {Q : VK} (h : ∀ R : VK, (∀ p H', Same H H' → EffAt K H' p e → R (.ref p) H') → te σ H R) (q : ∀ l (ps : List Addr) H', Same H H' → H' l = some (.lst (ps.map V.ref)) → Paired (EffAt K H') ps [e] → Q (.ref l) H') :
    tLst (tCons te tNil) σ H Q := by
  refine h _ fun p H1 s1 e1 => ⟨by show 1 ≤ sizeLine; decide, fun l hl => ?_⟩
  have s2 := same_new (o := .lst [V.ref p]) hl
  exact q l [p] _ (s1.trans s2) upd_same (.cons (e1.same s2) .nil)
theorem eff_list2 {K : PySem.W.Frag} {σ : L2.St} {H : Hp} {te tf : TE} {e f : Ef} {Q : VK} (h : ∀ R : VK, (∀ p H', Same H H' → EffAt K H' p e → R (.ref p) H') → te σ H R) (h2 : ∀ H1 (R : VK), Same H H1 → (∀ p H', Same H1 H' → EffAt K H' p f → R (.ref p) H') → tf σ H1 R)
    (q : ∀ l (ps : List Addr) H', Same H H' → H' l = some (.lst (ps.map V.ref)) → Paired (EffAt K H') ps [e, f] → Q (.ref l) H') : tLst (tCons te (tCons tf tNil)) σ H Q := by
  refine h _ fun p H1 s1 e1 => h2 _ _ s1 fun p2 H2 s2 e2 => ⟨by show 2 ≤ sizeLine; decide, fun l hl => ?_⟩
  have s3 := same_new (o := .lst [V.ref p, V.ref p2]) hl
  exact q l [p, p2] _ (s1.trans (s2.trans s3)) upd_same (.cons (e1.same (s2.trans s3)) (.cons (e2.same s3) .nil))
theorem mS_hit {x k : Str} {H : Hp} {Q : Option (List (Nat × V)) → Prop} (e : k = x) (h : Q (some [])) : mStr x (.str k) H Q := ⟨k, rfl, by rw [if_pos e]; exact h⟩
theorem mB_hit {b : Bool} {H : Hp} {Q : Option (List (Nat × V)) → Prop} (h : Q (some [])) : mBool b (.bl b) H Q := ⟨b, rfl, by rw [if_pos rfl]; exact h⟩
theorem mB_miss {b c : Bool} {H : Hp} {Q : Option (List (Nat × V)) → Prop} (e : ¬ c = b) (h : Q none) : mBool b (.bl c) H Q := ⟨c, rfl, by rw [if_neg e]; exact h⟩
theorem mN_hit {H : Hp} {Q : Option (List (Nat × V)) → Prop} (h : Q (some [])) : mNone .non H Q := by unfold mNone; rw [if_pos rfl]; exact h
theorem mN_miss {v : V} {H : Hp} {Q : Option (List (Nat × V)) → Prop} (e : ¬ v = .non) (h : Q none) : mNone v H Q := by unfold mNone; rw [if_neg e]; exact h
theorem fld_len (b : Bd) : (fldD b).length ≤ 3 := by cases b <;> simp [fldD]
/-! ### skipping a case -/
theorem skip {K : PySem.W.Frag} {n : Nat} {x k : Str} {u : TPts} {tb : TS} {rest : TCs} {a : Addr} {ys : List V} {D : Ends} {σ : L2.St} {H : Hp} (hs : SqT K H a (.str k :: ys)) (hne : ¬ k = x) (h : rest (.ref a) D σ H) : cCons (mSeq K n (mCons (mStr x) u)) tb rest (.ref a) D σ H := by
  refine ⟨a, _, rfl, hs, fun _ => ⟨_, _, rfl, k, rfl, ?_⟩, fun _ => h⟩
  rw [if_neg hne]; exact h
def spEffKind (K : PySem.W.Frag) : Sp := fun vs H Q _ => ∃ (o h : Int) (p : Addr) (b : Bd) (ys : List V), vs = [.int o, .str (kindS b), .int h, .ref p] ∧ SqT K H p ys ∧ DpAll K H ys (fldD b) ∧
  ∀ l (ps : List Addr) H', Same H H' → H' l = some (.lst (ps.map V.ref)) → Paired (EffAt K H') ps (effB o h b) → Q (.ref l) H'
def spEffects (K : PySem.W.Frag) : Sp := fun vs H Q _ => ∃ (t : Addr) (r : Rc), vs = [.ref t] ∧ RecAt K H t r ∧
  ∀ l (ps : List Addr) H', Same H H' → H' l = some (.lst (ps.map V.ref)) → Paired (EffAt K H') ps (effR r) → Q (.ref l) H'
section
variable {P : Program} {wrl : World} {K : PySem.W.Frag} {mg : Str → Option Value} {base : Heap} {f fA fE fF aK aF : Addr} {fd fdA fdE fdF : FuncData}
abbrev EKN : List Str := ["order","kind","host","fields","told","namespace","size","place","content","snapshot","way","victim"]
end
section
variable {P : Program} {wrl : World} {K : PySem.W.Frag} {mg : Str → Option Value} {base : Heap} {f fA fE fF : Addr} {fd fdA fdE fdF : FuncData}
end
/-- a list of effects; one effect -/
def LE (K : PySem.W.Frag) (te : TE) (σ : L2.St) (H : Hp) (es : List Ef) : Prop := ∀ Q : VK, (∀ l (ps : List Addr) H', Same H H' → H' l = some (.lst (ps.map V.ref)) → Paired (EffAt K H') ps es → Q (.ref l) H') → te σ H Q
def EE (K : PySem.W.Frag) (te : TE) (σ : L2.St) (H : Hp) (e : Ef) : Prop := ∀ Q : VK, (∀ p H', Same H H' → EffAt K H' p e → Q (.ref p) H') → te σ H Q
section
variable {K : PySem.W.Frag} {σ : L2.St} {H : Hp} {te ta tb : TE} {es fs : List Ef} {e : Ef}
theorem LE.one (h : EE K te σ H e) : LE K (tLst (tCons te tNil)) σ H [e] := fun Q q => eff_list1 h q
theorem LE.var {i : Nat} {l : Addr} {ps : List Addr} (hσ : σ[i]? = some (some (.ref l))) (hl : H l = some (.lst (ps.map V.ref))) (pr : Paired (EffAt K H) ps es) : LE K (tVar i) σ H es := fun Q q => ⟨_, hσ, q l ps H (Same.refl H) hl pr⟩
theorem paired_append {α β : Type} {F : α → β → Prop} : ∀ {a c : List α} {b d : List β}, Paired F a b → Paired F c d → Paired F (a ++ c) (b ++ d)
  | _, _, _, _, .nil, h => h
  | _, _, _, _, .cons r t, h => .cons r (paired_append t h)
theorem LE.cat (h1 : LE K ta σ H es) (h2 : ∀ H', Same H H' → LE K tb σ H' fs) (hn : es.length + fs.length ≤ 100) : LE K (tOp rCat ta tb) σ H (es ++ fs) := fun Q q => by
  refine h1 _ fun l ps H1 s1 hl p1 => h2 H1 s1 _ fun l2 ps2 H2 s2 hl2 p2 => ?_
  have n1 := p1.length
  have n2 := p2.length
  refine ⟨l, l2, _, _, rfl, rfl, s2 _ _ hl, hl2, by rw [List.length_map, List.length_map]; exact Nat.le_of_lt (small1000 (by omega)), fun p hp => ?_⟩
  rw [← List.map_append]
  have s3 := same_new (o := .lst ((ps ++ ps2).map V.ref)) hp
  exact q p _ _ (s1.trans (s2.trans s3)) upd_same (paired_append (Paired.imp2 (fun _ _ z => z.same (s2.trans s3)) p1) (Paired.imp2 (fun _ _ z => z.same s3) p2))
theorem EE.of {tk : TA} {tv : TE} {k : List Key} {d : PyData} (hn : k.length ≤ 3) (hk : ∀ R : List V → Hp → Prop, R (k.map kV) H → tk σ H R)
    (hv : ∀ H' (R : VK), Same H H' → (∀ H'' v, Same H' H'' → Dp K H'' v d → R v H'') → tv σ H' R) : EE K (tTup (tCons (tTup tk) (tCons tv tNil))) σ H (k, d) := fun Q q => eff_one hn hk hv q
end
theorem stSet0 {te : TE} {i : Nat} {r : TS} {D : Ends} {σ : L2.St} {H : Hp} {v : V} (h : ∀ Q : VK, Q v H → te σ H Q) (k : r D (σ.set i (some v)) H) : tSeq (tAsg te (gName i)) r D σ H := h _ k
theorem seqE {K : PySem.W.Frag} {te : TE} {i : Nat} {r : TS} {D : Ends} {σ : L2.St} {H : Hp} {e : Ef} (h : EE K te σ H e) (k : ∀ p H', Same H H' → EffAt K H' p e → r D (σ.set i (some (.ref p))) H') : tSeq (tAsg te (gName i)) r D σ H := h _ k
theorem seqL {K : PySem.W.Frag} {te : TE} {i : Nat} {r : TS} {D : Ends} {σ : L2.St} {H : Hp} {es : List Ef} (h : LE K te σ H es) (k : ∀ l (ps : List Addr) H', Same H H' → H' l = some (.lst (ps.map V.ref)) → Paired (EffAt K H') ps es → r D (σ.set i (some (.ref l))) H') : tSeq (tAsg te (gName i)) r D σ H := h _ k
theorem ifStrF {i : Nat} {k x : Str} {t r : TS} {D : Ends} {σ : L2.St} {H : Hp} (hσ : σ[i]? = some (some (.str k))) (h : ¬ k = x) (n : r D σ H) : tSeq (tIfS (tTest (tOp rEq (tVar i) (tC (.str x)))) t tNext) r D σ H := by
  refine ⟨_, hσ, rfl, _, rfl, ?_⟩
  rw [decide_eq_false (show ¬ V.str k = V.str x from fun z => h (by cases z; rfl))]
  exact iteF n
theorem ifStrT {i : Nat} {x : Str} {t u r : TS} {D : Ends} {σ : L2.St} {H : Hp} (hσ : σ[i]? = some (some (.str x))) (n : t { D with nx := r D } σ H) : tSeq (tIfS (tTest (tOp rEq (tVar i) (tC (.str x)))) t u) r D σ H := by
  refine ⟨_, hσ, rfl, _, rfl, ?_⟩
  rw [decide_eq_true rfl]
  exact iteT n
def spLAnswer0 (K : PySem.W.Frag) : Sp := fun vs H Q _ => ∃ (t : Addr) (r : Rc), vs = [.ref t] ∧ RecAt K H t r ∧ ∀ v H', Same H H' → Dp K H' v (answD (kindS r.b) r.o) → Q v H'
section
variable {P : Program} {wrl : World} {K : PySem.W.Frag} {mg : Str → Option Value} {base : Heap} {f fA fE fF aK aF : Addr} {fd fdA fdE fdF : FuncData}
end
end Sg

set_option Elab.async false
set_option linter.all false
set_option maxRecDepth 100000
set_option maxHeartbeats 4000000
namespace Sg
open PySem PySem.Spec PyProof.Rows L2
/-! ### data of tuples alone -/
mutual
def tupO : PyData → Bool
  | .none => true
  | .bool _ => true
  | .int _ => true
  | .str _ => true
  | .tuple ds => tupOs ds
  | _ => false
def tupOs : List PyData → Bool
  | [] => true
  | d :: ds => tupO d && tupOs ds
end
mutual
theorem dp_tk {K : PySem.W.Frag} {H H' : Hp} (s : TK H H') : ∀ (d : PyData) (x : V), tupO d = true → Dp K H x d → Dp K H' x d
  | .none, _, _, h => by cases h; exact .non
  | .bool _, _, _, h => by cases h; exact .bl _
  | .int _, _, _, h => by cases h; exact .int _
  | .str _, _, _, h => by cases h; exact .str _
  | .tuple ds, _, g, h => by
    have g' : tupOs ds = true := by simpa [tupO] using g
    cases h with
    | tup hs ha => exact .tup (sqT_tk hs s) (dpAll_tk s ds _ g' ha)
  | .list ds, _, g, _ => by simp [tupO] at g
  | .dict _, _, _, h => by cases h
theorem dpAll_tk {K : PySem.W.Frag} {H H' : Hp} (s : TK H H') : ∀ (ds : List PyData) (xs : List V), tupOs ds = true → DpAll K H xs ds → DpAll K H' xs ds
  | [], _, _, h => by cases h; exact .nil
  | d :: ds, _, g, h => by
    have g' : tupO d = true ∧ tupOs ds = true := by simpa [tupOs] using g
    cases h with
    | cons a b => exact .cons (dp_tk s d _ g'.1 a) (dpAll_tk s ds _ g'.2 b)
end
/-- good data: tuples alone, of a small depth -/
structure GD (n : Nat) (d : PyData) : Prop where
  t : tupO d = true
  l : d.canLay0 = true
  dp : d.depth ≤ n
theorem GD.sh {n : Nat} {d : PyData} (h : GD n d) (hn : n ≤ 64) : SeqAt.shaped d = true := shaped_of h.l (Nat.le_trans h.dp hn)
theorem GD.mono {n m : Nat} {d : PyData} (h : GD n d) (hn : n ≤ m) : GD m d := ⟨h.t, h.l, Nat.le_trans h.dp hn⟩
theorem gd_none {n : Nat} : GD n .none := ⟨rfl, by simp [PyData.canLay0], by simp [PyData.depth]⟩
theorem gd_int {n : Nat} {i : Int} : GD n (.int i) := ⟨rfl, by simp [PyData.canLay0], by simp [PyData.depth]⟩
theorem gd_tup3 {n : Nat} {a b c : PyData} (ha : GD n a) (hb : GD n b) (hc : GD n c) : GD (n + 1) (.tuple [a, b, c]) := by
  refine ⟨?_, ?_, ?_⟩
  · simp [tupO, tupOs, ha.t, hb.t, hc.t]
  · simp [PyData.canLay0, PyData.canLayAll0, ha.l, hb.l, hc.l]
  · have := ha.dp; have := hb.dp; have := hc.dp
    simp only [PyData.depth, PyData.depthAll]; omega
theorem gd_tup4 {n : Nat} {a b c d : PyData} (ha : GD n a) (hb : GD n b) (hc : GD n c) (hd : GD n d) : GD (n + 1) (.tuple [a, b, c, d]) := by
  refine ⟨?_, ?_, ?_⟩
  · simp [tupO, tupOs, ha.t, hb.t, hc.t, hd.t]
  · simp [PyData.canLay0, PyData.canLayAll0, ha.l, hb.l, hc.l, hd.l]
  · have := ha.dp; have := hb.dp; have := hc.dp; have := hd.dp
    simp only [PyData.depth, PyData.depthAll]; omega
theorem gd_tup2 {n : Nat} {a b : PyData} (ha : GD n a) (hb : GD n b) : GD (n + 1) (.tuple [a, b]) := by
  refine ⟨?_, ?_, ?_⟩
  · simp [tupO, tupOs, ha.t, hb.t]
  · simp [PyData.canLay0, PyData.canLayAll0, ha.l, hb.l]
  · have := ha.dp; have := hb.dp
    simp only [PyData.depth, PyData.depthAll]; omega
end Sg

set_option Elab.async false
set_option linter.all false
set_option maxRecDepth 100000
set_option maxHeartbeats 4000000
/-! sorted(d) of a dict whose keys are whole numbers, any number of them -/
namespace Sg
open PySem PySem.Spec PyProof.Rows L2
def rSortDI : List V → Hp → VK → Prop := fun vs H Q => ∃ (d : Addr) (es : List (Key × V)) (ns : List Int), vs = [.ref d] ∧ H d = some (.dK es) ∧ es.map (·.1) = ns.map Sum.inl ∧
  ∀ (ms : List Int) (l : Addr), ms.Perm ns → ms.Pairwise (· ≤ ·) → H l = none → Q (.ref l) (upd H l (.lst (ms.map V.int)))
theorem ints_of_keys {es : List (Key × Value)} {ns : List Int} {arr : Array Value} (hk : es.map (·.1) = ns.map Sum.inl) (hn : arr.toList.length = ns.length)
    (h : ∀ (j : Nat) (v : Value), arr[j]? = some v → ∃ (k : Key) (x : Value), es[j]? = some (k, x) ∧ keyIs k v = true) : IntsAre arr.toList ns := by
  refine ints_each hn fun j v e => ?_
  obtain ⟨k, x, g1, g2⟩ := h j v (by rw [← Array.getElem?_toList]; exact e)
  have g3 : (es.map (·.1))[j]? = some k := by rw [List.getElem?_map, g1]; rfl
  rw [hk, List.getElem?_map] at g3
  cases g4 : ns[j]? with
  | none => rw [g4] at g3; cases g3
  | some y =>
    rw [g4] at g3
    obtain rfl : Sum.inl y = k := Option.some.inj g3
    rcases keyIs_shape (show keyIs (Sum.inl y) v = true from g2) with ⟨i, t, a, b⟩ | ⟨i, t, a, b⟩
    · injection a with a
      exact ⟨y, t, rfl, by rw [a]; exact b⟩
    · cases a
section
variable {X : Cx}
theorem call_sortDI (hcalm : X.calm = true) : CallR X (.builtin "sorted") rSortDI := by
  intro pins s σ H vs us Q I r h
  obtain ⟨d, es, ns, rfl, hd, hns, q⟩ := h
  obtain ⟨u, rfl, ru⟩ := vals1 r
  obtain rfl : u = Value.ref d := ru
  obtain ⟨z, lo, vs, rel, dd⟩ := dk_rd I.hok (Rd.of hd)
  obtain ⟨ep, hat⟩ := dd.dictAt
  have hk : vs.map (·.1) = ns.map Sum.inl := by rw [← rel.keys]; exact hns
  have hl : vs.length = ns.length := by simpa using congrArg List.length hk
  have hz : vs.length ≤ sizeLine := by
    have := rel.length
    omega
  refine Calls.call_function_entry kind_sorted plain_sorted entry_sorted (args_sorted1 _) ?_
  unfold Builtin.«sorted»
  refine wpAny_bind (m := checkCount "sorted" 1 1 _) (wpAny_pure (wpAny_bind (PySem.W.kdu_collect (A := X.A.in1) (PySem.W.kdl_dict (knd := mixKind X.prog X.w) (kvs := vs) (ep := ep) lo) (I.ok.hd hcalm) hat hz fun h1 tk arr ke ha => ?_)))
  have hn : arr.toList.length = ns.length := by rw [Array.length_toList, ha.1, hl]
  have hi : IntsAre arr.toList ns := ints_of_keys hk hn ha.2
  have hza : arr.toList.length ≤ sizeLine := by omega
  have I1 : Inv X pins σ H { s with heap := h1, toks := tk } := I.kept ke
  refine wpAny_bind (wpAny_newList ?_ hza)
  have ho : (h1.push (seqObj "list" arr.toList.toArray 0)).get? h1.objs.size = some (seqObj "list" arr.toList.toArray 0) := by exact Heap.get?_push_size _ rfl
  show wpAny _ _ _ _ _ (Shared.mk (h1.push (seqObj "list" arr.toList.toArray 0)) s.gens s.drawn tk s.os)
  refine wpAny_bind (wpAny_holding (wpAny_call_entry slot_list_sort ⟨_, ho, rfl⟩ entry_list_sort (SrtO.list_sort_ord SrtO.swo_int ho hza (fun h2 => SrtO.ints_sortable hi h2) fun out k1 k2 => ⟨_, rfl, ?_⟩) (args_list_sort _)))
  obtain ⟨m1, m2, m3⟩ := SrtO.ints_out hi k1 k2
  obtain ⟨e', he'⟩ := sortedHeap_at (vs := arr.toList) (out := out.toArray) ho
  have hlen : ((out.map SrtO.iv).map V.int).length ≤ sizeLine := by
    have := m2.length_eq
    rw [List.length_map]
    omega
  refine wpAny_pure ⟨_, rfl, .ref h1.objs.size, upd H h1.objs.size (.lst ((out.map SrtO.iv).map V.int)), I1.laid (t' := tk) (fun b o eb => ?_) (Nat.le_refl _) ⟨hlen, out, e', vals_of_ints m1, he'⟩, rfl, q _ _ m2 m3 (I1.hok.fresh (Nat.le_refl _))⟩
  have hb := Heap.lt_size eb
  rw [sortedHeap_old (Nat.ne_of_lt hb) (Nat.lt_of_lt_of_le hb (by rw [size_push']; exact Nat.le_succ _))]
  exact Heap.get?_push_of_some _ eb
end
end Sg

set_option Elab.async false
set_option linter.all false
set_option maxRecDepth 100000
set_option maxHeartbeats 4000000
/-! [y for x in xs for y in ys(x) if ..] over lists -/
namespace Sg
open PySem PySem.Spec PyProof.Rows L2
theorem lc2_flat {K : PySem.W.Frag} {σ : L2.St} {H1 : Hp} {D a : Addr} {vs : List Nat} {j j1 : Nat} {xs : List V} {wi1 : TI} {tt1 : TT} {te : TE} {Qd : Hp → Prop} (yss : List (List V)) (f : V → Bool) (hlen : yss.length = xs.length) (hD : H1 D = Option.none) (hx : SqL K H1 a xs)
    (hw : ∀ x, wipe ((wipe σ vs).set j (some x)) vs = wipe σ vs) (hw1 : ∀ x y, wipe ((wipe ((wipe σ vs).set j (some x)) [j1]).set j1 (some y)) [j1] = wipe ((wipe σ vs).set j (some x)) [j1]) (hz : yss.flatten.length ≤ 1000)
    (hin : ∀ (i : Nat) (x : V) (ys : List V) (H' : Hp) (R : It → Hp → Prop), xs[i]? = some x → yss[i]? = some ys → Same H1 H' → (∀ b H'', Same H' H'' → (∀ H3, Same H1 H3 → SqL K H3 b ys) → R (Itl K b) H'') → wi1 ((wipe σ vs).set j (some x)) H' R)
    (ht : ∀ (i : Nat) (x y : V) (ys : List V) (H' : Hp) (Q' : Bool → Hp → Prop), xs[i]? = some x → yss[i]? = some ys → y ∈ ys → Same H1 H' → (∀ H'', Same H' H'' → Q' (f y) H'') → tt1 ((wipe ((wipe σ vs).set j (some x)) [j1]).set j1 (some y)) H' Q')
    (he : ∀ (i : Nat) (x y : V) (ys : List V) (H' : Hp) (Q' : VK), xs[i]? = some x → yss[i]? = some ys → y ∈ ys → Q' y H' → te ((wipe ((wipe σ vs).set j (some x)) [j1]).set j1 (some y)) H' Q')
    (hd : ∀ H', Same H1 H' → H' D = some (.lst (yss.flatten.filter f)) → Qd H') :
    ∃ W : Nat → Nat → Hp → Prop, (∃ m, W 0 m (upd H1 D (.lst []))) ∧ ∀ i m H, W i m H →
      ((Itl K a).stop i H ∧ Qd H) ∨ ((Itl K a).go i H ∧ ∃ Nx : Hp → Prop, (∀ H', Nx H' → ∃ m', m' < m ∧ W (i + 1) m' H') ∧ ∀ x H', (Itl K a).yld i H x H' → gName j x (wipe σ vs) H' fun σ2 H2 => wipe σ2 vs = wipe σ vs ∧ tYes σ2 H2 fun b H3 =>
        if b = true then wi1 σ2 H3 fun J1 H4 => ∃ W1 : Nat → Nat → Hp → Prop, (∃ m, W1 0 m H4) ∧ ∀ g k H, W1 g k H →
          (J1.stop g H ∧ Nx H) ∨ (J1.go g H ∧ ∃ Nx1 : Hp → Prop, (∀ H', Nx1 H' → ∃ k', k' < k ∧ W1 (g + 1) k' H') ∧ ∀ x H', J1.yld g H x H' → gName j1 x (wipe σ2 [j1]) H' fun σ3 H5 => wipe σ3 [j1] = wipe σ2 [j1] ∧ tt1 σ3 H5 fun b H6 =>
            if b = true then te σ3 H6 fun y H7 => ∃ acc, H7 D = some (.lst acc) ∧ acc.length < sizeLine ∧ Nx1 (upd H7 D (.lst (acc ++ [y]))) else Nx1 H6)
        else Nx H3) := by
  have step : ∀ (H' : Hp) (acc : List V), Same H1 H' → H' D = some (.lst acc) → ∀ zs, Same H1 (upd H' D (.lst zs)) := fun H' acc sm h zs y o hy => by
    rw [upd_ne (ne_of_none hy hD)]; exact sm _ _ hy
  have hfl : ∀ {a b : List (List V)}, (a ++ b).flatten.length = a.flatten.length + b.flatten.length := fun {a b} => by rw [List.flatten_append, List.length_append]
  refine ⟨fun i m H => m = xs.length - i ∧ i ≤ xs.length ∧ Same H1 H ∧ H D = some (.lst ((yss.take i).flatten.filter f)), ⟨xs.length, by simp, Nat.zero_le _, same_new hD, by rw [List.take_zero]; exact upd_same⟩, ?_⟩
  rintro i m H ⟨rfl, hi, sm, hDl⟩
  have sq := sm.seq hx
  by_cases hlt : i < xs.length
  · refine .inr ⟨⟨xs, xs[i], sq, by simp [hlt]⟩, fun H' => Same H1 H' ∧ H' D = some (.lst ((yss.take (i + 1)).flatten.filter f)), fun H' p => ⟨xs.length - (i + 1), by omega, rfl, hlt, p.1, p.2⟩, fun x H' y => ?_⟩
    obtain ⟨rfl, hxy⟩ := y
    have hxi := hxy xs sq
    have hyi : yss[i]? = some yss[i] := List.getElem?_eq_getElem (by omega)
    have htk : (yss.take (i + 1)).flatten = (yss.take i).flatten ++ yss[i] := by
      rw [List.take_add_one, hyi, List.flatten_append]; simp
    have htot : ((yss.take i).flatten ++ yss[i]).length ≤ 1000 := by
      rw [← htk]
      have e : yss.flatten.length = (yss.take (i + 1)).flatten.length + (yss.drop (i + 1)).flatten.length := by rw [← hfl, List.take_append_drop]
      omega
    rw [List.length_append] at htot
    refine ⟨hw _, yesIte (hin i x _ _ _ hxi hyi sm fun b H4 s4 hb => ?_)⟩
    refine ⟨fun g k H => k = yss[i].length - g ∧ g ≤ yss[i].length ∧ Same H1 H ∧ H D = some (.lst (((yss.take i).flatten ++ yss[i].take g).filter f)), ⟨yss[i].length, by simp, Nat.zero_le _, sm.trans s4, by rw [List.take_zero, List.append_nil]; exact s4 _ _ hDl⟩, ?_⟩
    rintro g k H5 ⟨rfl, hg, sm5, hD5⟩
    have sq5 := hb H5 sm5
    by_cases hgl : g < yss[i].length
    · refine .inr ⟨⟨yss[i], yss[i][g], sq5, by simp [hgl]⟩, fun H' => Same H1 H' ∧ H' D = some (.lst (((yss.take i).flatten ++ yss[i].take (g + 1)).filter f)), fun H' p => ⟨yss[i].length - (g + 1), by omega, rfl, hgl, p.1, p.2⟩, fun z H6 yz => ?_⟩
      obtain ⟨rfl, hzz⟩ := yz
      have hzg := hzz _ sq5
      have hzm := List.mem_of_getElem? hzg
      have htg : (yss.take i).flatten ++ yss[i].take (g + 1) = ((yss.take i).flatten ++ yss[i].take g) ++ [z] := by
        rw [List.take_add_one, hzg, ← List.append_assoc]; rfl
      refine ⟨hw1 _ _, ht i x z _ _ _ hxi hyi hzm sm5 fun H7 s7 => ?_⟩
      have hD7 := s7 _ _ hD5
      cases hf : f z with
      | true =>
        rw [if_pos rfl]
        refine he i x z _ _ _ hxi hyi hzm ⟨_, hD7, small1000 ?_, step H7 _ (sm5.trans s7) hD7 _, ?_⟩
        · refine Nat.le_trans (List.length_filter_le _ _) ?_
          rw [List.length_append, List.length_take]; omega
        · rw [upd_same, htg, List.filter_append]
          simp [hf]
      | false =>
        rw [if_neg Bool.false_ne_true]
        refine ⟨sm5.trans s7, ?_⟩
        rw [hD7, htg, List.filter_append]
        simp [hf]
    · have eg : g = yss[i].length := by omega
      refine .inl ⟨⟨_, sq5, by omega⟩, sm5, ?_⟩
      rw [hD5, eg, List.take_length, htk]
  · have ei : i = xs.length := by omega
    refine .inl ⟨⟨xs, sq, by omega⟩, hd H sm ?_⟩
    rw [hDl, ei, ← hlen, List.take_length]
end Sg

set_option Elab.async false
set_option linter.all false
set_option maxRecDepth 100000
set_option maxHeartbeats 4000000
namespace Sg
open PySem PySem.Spec PyProof.Rows L2
theorem hu65 {k : Nat} {A : Around} (hr : Room k A) : A.units + 65 < cLine := by have := hr.un; omega
theorem shaped_list {ds : List PyData} (h : PyData.canLayAll0 ds = true) (h' : PyData.depthAll ds ≤ 63) : SeqAt.shaped (.list ds) = true :=
  shaped_of (by simpa [PyData.canLay0] using h) (by simp only [PyData.depth]; omega)
theorem paired_at {α β : Type} {F : α → β → Prop} : ∀ {a : List α} {b : List β} {i : Nat} {x : α}, Paired F a b → a[i]? = some x → ∃ y, b[i]? = some y ∧ F x y
  | _, _, 0, _, .cons r _, h => ⟨_, rfl, by rw [← Option.some.inj h]; exact r⟩
  | _, _, i + 1, x, .cons (a := p) _ t, h => paired_at (i := i) t (by simpa using h)
/-- a record, as data -/
def recDt (r : Rc) : PyData := .tuple (.int r.o :: .str (kindS r.b) :: .int r.h :: .int r.s :: .int r.c :: fldD r.b)
structure RGood (r : Rc) : Prop where
  t : tupOs (fldD r.b) = true
  l : (recDt r).canLay0 = true
  dp : (recDt r).depth ≤ 60
theorem RGood.sh {r : Rc} (g : RGood r) : SeqAt.shaped (recDt r) = true := shaped_of g.l (Nat.le_trans g.dp (by decide))
theorem RGood.sh1 {r : Rc} (g : RGood r) : SeqAt.shaped (.list [recDt r]) = true := shaped_list (by simp only [PyData.canLayAll0, g.l, Bool.and_self]) (by have := g.dp; simp only [PyData.depthAll]; omega)
theorem RecAt.dp {K : PySem.W.Frag} {H : Hp} {t : Addr} {r : Rc} (h : RecAt K H t r) : Dp K H (.ref t) (recDt r) := by
  obtain ⟨ys, a, b⟩ := h
  exact .tup a (.cons (.int _) (.cons (.str _) (.cons (.int _) (.cons (.int _) (.cons (.int _) b)))))
theorem RecAt.tk {K : PySem.W.Frag} {H H' : Hp} {t : Addr} {r : Rc} (h : RecAt K H t r) (g : RGood r) (s : TK H H') : RecAt K H' t r := by
  obtain ⟨ys, a, b⟩ := h
  exact ⟨ys, sqT_tk a s, dpAll_tk s _ _ g.t b⟩
/-! ### each_once -/
abbrev OE := Rc × Addr × Addr
def kvE (es : List OE) : List (Key × V) := es.map fun e => (Sum.inl e.1.o, V.ref e.2.2)
theorem es_val {n : Int} {v : V} : ∀ {es : List OE}, valV (kvE es) (Sum.inl n) = some v → ∃ e ∈ es, e.1.o = n ∧ v = .ref e.2.2
  | [], h => by cases h
  | e :: es, h => by
    by_cases z : e.1.o = n
    · have e1 : valV (kvE (e :: es)) (Sum.inl n) = some (.ref e.2.2) := valV_pos (p := (Sum.inl e.1.o, V.ref e.2.2)) (by rw [z])
      rw [e1] at h
      exact ⟨e, List.mem_cons_self, z, (Option.some.inj h).symm⟩
    · have e1 : valV (kvE (e :: es)) (Sum.inl n) = valV (kvE es) (Sum.inl n) := valV_neg (p := (Sum.inl e.1.o, V.ref e.2.2)) (fun y => z (Sum.inl.inj y))
      rw [e1] at h
      obtain ⟨x, hx, a, b⟩ := es_val h
      exact ⟨x, List.mem_cons_of_mem _ hx, a, b⟩
theorem es_none {n : Int} : ∀ {es : List OE}, valV (kvE es) (Sum.inl n) = none → ∀ e ∈ es, e.1.o ≠ n
  | [], _, e, he => nomatch he
  | x :: es, h, e, he => by
    have z : ¬ x.1.o = n := fun z => by
      have e1 : valV (kvE (x :: es)) (Sum.inl n) = some (.ref x.2.2) := valV_pos (p := (Sum.inl x.1.o, V.ref x.2.2)) (by rw [z])
      rw [e1] at h; cases h
    have e1 : valV (kvE (x :: es)) (Sum.inl n) = valV (kvE es) (Sum.inl n) := valV_neg (p := (Sum.inl x.1.o, V.ref x.2.2)) (fun y => z (Sum.inl.inj y))
    rw [e1] at h
    rcases List.mem_cons.mp he with rfl | he
    · exact z
    · exact es_none h e he
theorem nodup_key {x y : OE} : ∀ {es : List OE}, (es.map (·.1.o)).Nodup → x ∈ es → y ∈ es → x.1.o = y.1.o → x = y
  | [], _, h, _, _ => nomatch h
  | e :: es, nd, hx, hy, h => by
    rw [List.map_cons, List.nodup_cons] at nd
    rcases List.mem_cons.mp hx with a | a <;> rcases List.mem_cons.mp hy with b | b
    · rw [a, b]
    · exact absurd (show e.1.o ∈ es.map (·.1.o) from List.mem_map.mpr ⟨y, b, by rw [← h, a]⟩) nd.1
    · exact absurd (show e.1.o ∈ es.map (·.1.o) from List.mem_map.mpr ⟨x, a, by rw [h, b]⟩) nd.1
    · exact nodup_key nd.2 a b h
theorem es_get {es : List OE} (nd : (es.map (·.1.o)).Nodup) {e : OE} (he : e ∈ es) : valV (kvE es) (Sum.inl e.1.o) = some (.ref e.2.2) := by
  cases h : valV (kvE es) (Sum.inl e.1.o) with
  | none => exact absurd rfl (es_none h e he)
  | some v =>
    obtain ⟨x, hx, a, b⟩ := es_val h
    have : x = e := nodup_key nd hx he a
    rw [b, this]
def eOf (es : List OE) (m : Int) : OE := (es.find? fun e => decide (e.1.o = m)).getD (⟨0, 0, 0, 0, .snap 0⟩, 0, 0)
theorem eOf_at {es : List OE} (nd : (es.map (·.1.o)).Nodup) {e : OE} (he : e ∈ es) : eOf es e.1.o = e := by
  unfold eOf
  cases h : es.find? (fun x => decide (x.1.o = e.1.o)) with
  | none =>
    have := List.find?_eq_none.mp h e he
    simp at this
  | some x =>
    have h1 := List.find?_some h
    have h2 := List.mem_of_find?_eq_some h
    exact nodup_key nd h2 he (of_decide_eq_true h1)
theorem flat_one {α β : Type} (g : α → β) : ∀ l : List α, (l.map fun m => [g m]).flatten = l.map g
  | [] => rfl
  | m :: l => by rw [List.map_cons, List.flatten_cons, flat_one g l]; rfl
theorem paired_map2 {α β γ : Type} {F : β → γ → Prop} {g : α → β} {h : α → γ} : ∀ {l : List α}, (∀ x ∈ l, F (g x) (h x)) → Paired F (l.map g) (l.map h)
  | [], _ => .nil
  | x :: l, hl => .cons (hl x List.mem_cons_self) (paired_map2 fun y hy => hl y (List.mem_cons_of_mem _ hy))
def spOnce (K : PySem.W.Frag) : Sp := fun vs H Q _ => ∃ (a : Addr) (ts : List Addr) (rs : List Rc), vs = [.ref a] ∧ SqL K H a (ts.map V.ref) ∧ Paired (RecAt K H) ts rs ∧ rs.length ≤ 1000 ∧ (∀ r ∈ rs, RGood r) ∧ (∀ x ∈ rs, ∀ y ∈ rs, x.o = y.o → x = y) ∧
  ∀ l ts' rs' H', Same H H' → H l = Option.none → H' l = some (.lst (ts'.map V.ref)) → Paired (RecAt K H') ts' rs' → rs'.Pairwise (fun x y => x.o < y.o) → (∀ r, r ∈ rs' ↔ r ∈ rs) → Q (.ref l) H'
section
variable {P : Program} {wd : World} {K : PySem.W.Frag} {mg : Str → Option Value} {base : Heap} {f : Addr} {fd : FuncData}
end
end Sg

set_option Elab.async false
set_option linter.all false
set_option maxRecDepth 100000
set_option maxHeartbeats 4000000
namespace Sg
open PySem PySem.Spec PyProof.Rows L2
section
variable {prog : Program} {w : World} {K : Type} [DecidableEq K] {knd : KeyKind prog w K} {A : Around} {E : Value → Shared → Prop} {s : Shared}
theorem wp_dictPut {d : Addr} {kvs : List (K × Value)} {k : K} {key v : Value} {Q : Unit → Shared → Prop} (hkey : knd.is k key = true) (hm : s.heap.DictOf knd d kvs)
    (hQ : ∀ h', h'.DictOf knd d (stored kvs k v) → Heap.SameBut d s.heap h' → Q () { s with heap := h' }) (hsz : kvs.length ≤ sizeLine) :
    wpAny (model prog w) A (dictPut d (knd.hash k) key v) Q E s := by
  obtain ⟨o, es, ep, ho, hc, hd, hk, hp, hn⟩ := hm
  have hes : es.size ≤ sizeLine := by have e1 := hp.length; have e2 : es.toList.length = es.size := by simp
                                      omega
  unfold dictPut
  refine wpAny_bind (wpAny_dictFind_of hkey ho hd hk ?_)
  have hidx : (es.findIdx? fun e => knd.is k e.key) = kvs.findIdx? fun kv => decide (kv.1 = k) := by
    rw [← hp.findIdx k]; obtain ⟨l⟩ := es; simp
  cases hi : es.findIdx? fun e => knd.is k e.key with
  | some i =>
    refine wpAny_updateDict ho hd (hQ _ ⟨_, _, ep, Heap.get?_update_self _ ho (Obj.isFreed_of_dict (Obj.data_mapDict hd _)),
      hc.mapDict _, Obj.data_mapDict hd _, hk.modify _ _, ?_, ?_⟩ (Heap.SameBut.update ..))
    · rw [stored, if_pos (any_of_findIdx_some (hidx ▸ hi))]
      have hl : (es.toList.findIdx? fun e => knd.is k e.key) = some i := by rw [← hi]; obtain ⟨l⟩ := es; simp
      have := hp.modify hn hl v
      obtain ⟨l⟩ := es
      simpa using this
    · rw [stored, if_pos (any_of_findIdx_some (hidx ▸ hi)), keys_map_store]; exact hn
  | none =>
    have hnot : k ∉ kvs.map (·.1) := not_mem_of_findIdx_none (hidx ▸ hi)
    have hany : ¬ (kvs.any fun kv => decide (kv.1 = k)) = true := by
      rw [List.any_eq_true]; rintro ⟨kv, hkv, he⟩
      exact hnot (List.mem_map.mpr ⟨kv, hkv, of_decide_eq_true he⟩)
    refine wpAny_updateDictKeys (hz := hes) ho hd (hQ _ ⟨_, _, ep + 1, Heap.get?_update_self _ ho (Obj.isFreed_of_dict (Obj.data_mapDictKeys hd _)),
      hc.mapDictKeys _, Obj.data_mapDictKeys hd _, hk.push hkey _, ?_, ?_⟩ (Heap.SameBut.update ..))
    · rw [stored, if_neg hany]
      have := hp.append hkey (knd.hash k) v
      obtain ⟨l⟩ := es
      simpa using this
    · rw [stored, if_neg hany, List.map_append, List.nodup_append]
      refine ⟨hn, by simp, ?_⟩
      intro x hx y hy
      rw [show y = k by simpa using hy]
      intro e
      exact hnot (by rw [← e]; exact hx)
theorem merge_loop {d a : Addr} {kvs more : List (K × Value)} {Q : Unit → Shared → Prop} (hda : d ≠ a) (hd : s.heap.DictOf knd d kvs) (ha : s.heap.DictOf knd a more) (hsz : kvs.length + more.length ≤ sizeLine)
    (hQ : ∀ h', h'.DictOf knd d (merged kvs more) → h'.DictOf knd a more → Heap.SameBut d s.heap h' → Q () { s with heap := h' }) :
    wpAny (model prog w) A (do
      let l ← dictEntries a
      let epoch ← dictEpoch a
      forIn (List.range l.size) PUnit.unit fun i (_ : PUnit) => (do
          let l' ← dictEntries a
          match l'[i]? with
            | some e => do
              holding [e.key, e.val] (dictPut d e.hash e.key e.val)
              let ep' ← dictEpoch a
              if (ep' != epoch) = true then do
                  (unsupported "dict.changed-during-merge" : Sem PUnit)
                  pure (ForInStep.yield PUnit.unit)
                else pure (ForInStep.yield PUnit.unit)
            | _ => do
              (unsupported "dict.changed-during-merge" : Sem PUnit)
              pure (ForInStep.yield PUnit.unit) : Sem (ForInStep PUnit))
      pure ()) Q E s := by
  obtain ⟨oo, eso, epo, hoo, hco, hdo', hko, hpo, hno⟩ := id ha
  have hlen : more.length = eso.size := by have e1 := hpo.length; have e2 : eso.toList.length = eso.size := by simp
                                           omega
  refine wpAny_bind (wpAny_dictEntries hoo hdo' ?_)
  refine wpAny_bind (wpAny_dictEpoch hoo hdo' ?_)
  refine wpAny_bind ?_
  rw [List.range_eq_range']
  refine wpAny_forIn_list _
    (fun rest _ s' => ∃ h' i, s' = { s with heap := h' } ∧ rest = List.range' i (eso.size - i) ∧ i ≤ eso.size ∧ h'.DictOf knd d (merged kvs (more.take i)) ∧ h'.get? a = some oo ∧ Heap.SameBut d s.heap h')
    _ ?_ ?_ _ _ ⟨s.heap, 0, rfl, by simp, Nat.zero_le _, by simpa [merged] using hd, hoo, Heap.SameBut.refl _ _⟩
  · rintro x rest b s' ⟨h', i, rfl, hr, hi, hd', hoo', hs'⟩
    have hlt : i < eso.size := by
      rcases Nat.lt_or_ge i eso.size with h | h
      · exact h
      · rw [Nat.sub_eq_zero_of_le h] at hr; simp at hr
    obtain ⟨rfl, hrest⟩ : x = i ∧ rest = List.range' (i + 1) (eso.size - (i + 1)) := by
      have e : eso.size - i = (eso.size - (i + 1)) + 1 := by omega
      rw [e, List.range'_succ] at hr
      injection hr with h1 h2
      exact ⟨h1, h2⟩
    refine wpAny_bind (wpAny_dictEntries hoo' hdo' ?_)
    rw [Array.getElem?_eq_getElem hlt]
    obtain ⟨kv, hkv⟩ : ∃ kv, more[x]? = some kv := ⟨more[x]'(by rw [hlen]; exact hlt), List.getElem?_eq_getElem _⟩
    obtain ⟨k, v⟩ := kv
    obtain ⟨hkey, hval⟩ := hpo.get? (e := eso[x]) (by simp [hlt]) hkv
    obtain ⟨k', hkey', hhash⟩ := hko eso[x] (Array.getElem_mem hlt)
    obtain rfl : k' = k := knd.inj _ _ _ hkey' hkey
    show wpAny _ _ (holding [eso[x].key, eso[x].val] (dictPut d eso[x].hash eso[x].key eso[x].val) >>= _) _ _ _
    rw [hhash, hval]
    have hmx : (merged kvs (more.take x)).length ≤ sizeLine := by
      have e1 := merged_length_le kvs (more.take x)
      have e2 : (more.take x).length ≤ more.length := by rw [List.length_take]; omega
      omega
    refine wpAny_bind (wpAny_holding (wp_dictPut hkey hd' (fun h'' hd'' hs'' => ?_) hmx))
    have hoo'' : h''.get? a = some oo := (hs''.2 a (Ne.symm hda)).trans hoo'
    refine wpAny_bind (wpAny_dictEpoch hoo'' hdo' ?_)
    rw [if_neg (by simp)]
    exact wpAny_pure ⟨h'', x + 1, rfl, hrest, hlt, by rw [merged_take_succ kvs more x (k', v) hkv]; exact hd'', hoo'', hs'.trans hs''⟩
  · rintro b s' ⟨h', i, rfl, hr, hi, hd', hoo', hs'⟩
    have hin : i = eso.size := by
      rcases Nat.lt_or_ge i eso.size with h | h
      · have e : eso.size - i = (eso.size - (i + 1)) + 1 := by omega
        rw [e, List.range'_succ] at hr; exact nomatch hr
      · exact Nat.le_antisymm hi h
    refine wpAny_pure (hQ h' ?_ ⟨oo, eso, epo, hoo', hco, hdo', hko, hpo, hno⟩ hs')
    rw [hin, ← hlen, List.take_length] at hd'; exact hd'
theorem wp_merge {d a : Addr} {kvs more : List (K × Value)} {Q : Unit → Shared → Prop} (hda : d ≠ a) (haS : (a == sysModules) = false) (hnr : ∀ k x, knd.is k (.ref x) = false) (hd : s.heap.DictOf knd d kvs) (ha : s.heap.DictOf knd a more) (hsz : kvs.length + more.length ≤ sizeLine)
    (hQ : ∀ h', h'.DictOf knd d (merged kvs more) → h'.DictOf knd a more → Heap.SameBut d s.heap h' → Q () { s with heap := h' }) :
    wpAny (model prog w) A (mergeMapping d (.ref a) false) Q E s := by
  unfold mergeMapping
  refine wpAny_bind (wpAny_isInstance ha.typeIs isSubtype_dict_dict ?_)
  rw [if_pos rfl]
  refine wpAny_bind (wpAny_specialOf ha.typeIs F.slot_dict_iter.lookup ?_)
  dsimp only
  refine wpAny_bind (wpAny_pure ?_)
  rw [show (some (Value.builtin "dict.__iter__") == some (Value.builtin "dict.__iter__")) = true from by decide]
  dsimp only
  rw [haS]
  simp only [Bool.false_eq_true, if_false]
  obtain ⟨od, esd, epd, hod, hcd, hdd, hkd, hpd, hnd⟩ := id hd
  obtain ⟨oo, eso, epo, hoo, hco, hdo', hko, hpo, hno⟩ := id ha
  refine wpAny_bind (wpAny_dictEntries hod hdd ?_)
  split
  · refine wpAny_bind (wpAny_dictEntries hoo hdo' ?_)
    refine wpAny_bind ?_
    rw [← Array.forIn_toList]
    refine wpAny_forIn_list _ (fun rest _ s' => s' = s ∧ ∀ e ∈ rest, e ∈ eso.toList) _ ?_ ?_ _ _ ⟨rfl, fun e h => h⟩
    · rintro e rest b s' ⟨rfl, hr⟩
      obtain ⟨k, hk, _⟩ := hko e (by simpa using hr e List.mem_cons_self)
      have : ∀ x, e.key ≠ .ref x := fun x hx => by rw [hx, hnr] at hk; cases hk
      cases hkk : e.key with
      | ref x => exact absurd hkk (this x)
      | _ => exact wpAny_pure ⟨rfl, fun y hy => hr y (List.mem_cons_of_mem _ hy)⟩
    · rintro b s' ⟨rfl, _⟩
      exact merge_loop hda hd ha hsz hQ
  · exact merge_loop hda hd ha hsz hQ
end
end Sg

set_option Elab.async false
set_option linter.all false
set_option maxRecDepth 100000
set_option maxHeartbeats 4000000
namespace Sg
open PySem PySem.Spec PyProof.Rows L2
theorem wp_display_star {v1 k v : Sem Value} {Q : Value → Shared → Prop} {M : Model} {A : Around} {E : Value → Shared → Prop} {s : Shared}
    (h : wpAny M A v1 (fun m s1 => wpAny M A (mergeMapping s.heap.objs.size m false) (fun _ s2 => wpAny M A (subDict [(k, v)]) (fun sub s3 => wpAny M A (mergeMapping s.heap.objs.size (.ref sub) false) (fun _ s4 => Q (.ref s.heap.objs.size) s4) (fun _ _ => False) s3) E s2) (fun _ _ => False) s1) E { s with heap := s.heap.push { cls := .type "dict", data := .dict #[] } }) :
    wpAny M A (dictDisplay [(none, v1), (some k, v)]) Q E s := by
  unfold dictDisplay
  simp only [List.forIn_cons, List.forIn_nil]
  refine wpAny_bind (wpAny_bind (wpAny_bind ?_))
  rw [if_pos (by rfl)]
  refine wpAny_pure ?_
  dsimp only
  refine wpAny_bind (wpAny_alloc (wpAny_bind (wpAny_holding (wpAny_mono h (fun m s1 h1 => ?_) fun _ _ e => e))))
  refine wpAny_bind (wpAny_onRaise (wpAny_tryCatch (wpAny_onRaise (wpAny_holding (wpAny_mono h1 (fun _ s2 h2 => ?_) fun _ _ h => h.elim)))))
  refine wpAny_pure ?_
  dsimp only
  refine wpAny_bind ?_
  rw [if_neg (by simp)]
  refine wpAny_pure (wpAny_pure ?_)
  dsimp only
  refine wpAny_bind ?_
  rw [if_neg (by simp)]
  refine wpAny_bind (wpAny_holding (wpAny_mono h2 (fun sub s3 h3 => ?_) fun _ _ e => e))
  refine wpAny_bind (wpAny_onRaise (wpAny_holding (wpAny_mono h3 (fun _ s4 h4 => ?_) fun _ _ h => h.elim)))
  exact wpAny_pure (wpAny_pure h4)
end Sg

set_option Elab.async false
set_option linter.all false
set_option maxRecDepth 100000
set_option maxHeartbeats 4000000
namespace Sg
open PySem PySem.Spec PyProof.Rows L2
/-! ### {**d, k: v}: the keys whole numbers and texts -/
theorem mix_noref {P : Program} {w : World} (k : Key) (x : Addr) : (mixKind P w).is k (.ref x) = false := by
  cases k <;> rfl
section
variable {X : Cx} {pins : List (Addr × Obj)} {σ : L2.St} {H : Hp} {s : Shared} {A : Around} {E : Value → Shared → Prop}
theorem d_merge {D a : Addr} {ks ls : List (Key × V)} {Q : Unit → Shared → Prop} (I : L2.Inv X pins σ H s) (hD : H D = some (.dK ks)) (ha : Rd H a (.dK ls)) (hda : D ≠ a) (hz : ks.length + ls.length ≤ sizeLine) (h : ∀ s', L2.Inv X pins σ (upd H D (.dK (mergeK ks ls))) s' → Q () s') :
    wpAny (model X.prog X.w) A (mergeMapping D (.ref a) false) Q E s := by
  obtain ⟨z, hd, vs, rel, dd⟩ := dk_of I.hok hD
  obtain ⟨z', hs', ws, rel', dd'⟩ := dk_rd I.hok ha
  have l1 := rel.length
  have l2 := rel'.length
  have hl := length_mergeK ls ks
  refine wp_merge hda hs' mix_noref dd dd' (by omega) fun h' d1 d2 hs => h _ ?_
  have he : ∃ q, h'.get? D = some q := let ⟨q, _, _, hq, _⟩ := d1; ⟨q, hq⟩
  exact d_write I (by rw [hD]; exact True.intro) hs he (dk_new (by omega) hd (rel'.merge rel) d1)
end
def tDStar (t1 tk tv : TE) : TE := fun σ H Q => ∀ D, H D = none → t1 σ (upd H D (.dK [])) fun x H1 => ∃ a ls, x = .ref a ∧ Rd H1 a (.dK ls) ∧ D ≠ a ∧ H1 D = some (.dK []) ∧ ls.length < sizeLine ∧
  ∀ S, (upd H1 D (.dK (mergeK [] ls))) S = none → tk σ (upd (upd H1 D (.dK (mergeK [] ls))) S (.dK [])) fun y H2 => tv σ H2 fun z H3 => ∃ k, y = kV k ∧ H3 D = some (.dK (mergeK [] ls)) ∧ H3 S = some (.dK []) ∧ D ≠ S ∧
    Q (.ref D) (upd (upd H3 S (.dK [(k, z)])) D (.dK (putK (mergeK [] ls) k z)))
section
variable {X : Cx} {e1 k v : Expr} {t1 tk tv : TE} {pos : Pos}
theorem pe_dstar (h1 : PE X e1 t1) (hk : PE X k tk) (hv : PE X v tv) : PE X (.Dict [none, some k] [e1, v] pos) (tDStar t1 tk tv) := by
  refine ⟨fun pins s σ H Q I q => ?_⟩
  rw [arm_eval_Dict]
  refine wpAny_bind (wpAny_standAt ?_)
  have hn := I.hok.fresh (Nat.le_refl s.heap.objs.size)
  have I1 := I.laid (a := s.heap.objs.size) (o := .dK []) (h' := s.heap.push { cls := .type "dict", data := .dict #[] }) (t' := s.toks) (fun _ _ q => Heap.get?_push_of_some _ q) (Nat.le_refl _) (dk_empty s.heap I.big)
  refine wp_display_star (v1 := do let x ← eval e1 X.env; standAt pos; pure x) (k := eval k X.env) (v := do let x ← eval v X.env; standAt pos; pure x) ?_
  refine wpAny_bind (thn (h1.run pins _ σ _ _ I1 (q _ hn)) fun u s1 ⟨x, H1, I2, rx, a, ls, ex, ha, hda, hD, hz, q2⟩ => ?_)
  refine wpAny_bind (wpAny_standAt (wpAny_pure ?_))
  subst ex
  obtain rfl : u = Value.ref a := rx
  refine d_merge I2 hD ha hda (by simp only [List.length_nil]; omega) fun s2 I3 => ?_
  have hS := I3.hok.fresh (Nat.le_refl s2.heap.objs.size)
  have I4 := I3.laid (a := s2.heap.objs.size) (o := .dK []) (h' := s2.heap.push { cls := .type "dict", data := .dict #[] }) (t' := s2.toks) (fun _ _ q => Heap.get?_push_of_some _ q) (Nat.le_refl _) (dk_empty s2.heap I3.big)
  have q3 := q2 _ hS
  refine wpAny_subDict (knd := mixKind X.prog X.w) (by simp) ?_
  refine wpAny_bind (thn (hk.run pins _ σ _ _ I4 q3) fun kv s3 ⟨y, H2, I5, ry, q4⟩ => ?_)
  refine wpAny_bind (wpAny_holding (wpAny_bind (thn (hv.run pins _ σ _ _ I5 q4) fun vv s4 ⟨z, H3, I6, rz, kk, ey, hD3, hS3, hne, q5⟩ => wpAny_bind (wpAny_standAt (wpAny_pure ?_)))))
  refine wpAny_bind (wpAny_holding (wpAny_pure (wpAny_pure ?_)))
  subst ey
  obtain ⟨_, hd, vs0, r0, dd⟩ := dk_of I6.hok hS3
  cases r0
  have rk : KV [(kk, z)] [(kk, vv)] := .cons ⟨rfl, rz⟩ .nil
  refine ⟨[(kk, vv)], ⟨kV_is ry, rfl, True.intro⟩, dd, fun h' dd' hs => ?_⟩
  have he : ∃ q, h'.get? s2.heap.objs.size = some q := let ⟨q, _, _, hq, _⟩ := dd'; ⟨q, hq⟩
  have I7 := d_write (t' := s4.toks + 1) I6 (by rw [hS3]; exact True.intro) hs he (dk_new (kvs := [(kk, z)]) (by rw [sizeLine_eq]; simp) hd rk dd')
  have hlm := length_mergeK ls []
  have hne' : s.heap.objs.size ≠ s2.heap.objs.size := hne
  refine d_merge I7 (D := s.heap.objs.size) (a := s2.heap.objs.size) (ks := mergeK [] ls) (ls := [(kk, z)]) (by rw [upd_ne hne']; exact hD3) (.inl upd_same) hne' (by simp only [List.length_nil, List.length_cons] at *; omega) fun s5 I8 => ?_
  exact ⟨.ref s.heap.objs.size, _, I8, rfl, q5⟩
end
end Sg

set_option Elab.async false
set_option linter.all false
set_option maxRecDepth 100000
set_option maxHeartbeats 4000000
namespace Sg
open PySem PySem.Spec PyProof.Rows L2
/-! ### a dict comprehension, the keys of either kind -/
section
variable {X : Cx} {pins : List (Addr × Obj)} {σ : L2.St} {H H' : Hp} {s : Shared}
theorem d_compSet {D : Addr} {y v : V} {u r : Value} {E : Value → Shared → Prop} {Q : Unit → Shared → Prop} (hu : X.A.units < cLine) (I : L2.Inv X pins σ H s) (g : DPut H D y v H') (ry : RelV y u) (rv : RelV v r) (h : ∀ s', L2.Inv X pins σ H' s' → Q () s') :
    wpAny (model X.prog X.w) X.A (dictSet D u r) Q E s := by
  rcases g with ⟨kvs, k, e, ey, l, eH⟩ | ⟨kvs, k, b, e, ey, eb, l, eH⟩
  · subst ey eH
    exact d_dictSet I e l ry rv h
  · subst ey eH
    obtain rfl : u = Value.ref b := ry
    obtain ⟨z, hd, xs, rel, dd⟩ := dt_of I.hok e
    have lx := Paired.length rel
    have lp := length_putK kvs k v
    refine wpAny_dictSet_heap (hsz := by omega) hu (key_of I.hok eb) dd fun h' dd' hs => h _ ?_
    obtain ⟨o, es, ep, ho, r2, r3, r4, _, r5⟩ := dd'
    refine d_write I (by rw [e]; exact True.intro) hs ⟨o, ho⟩ ⟨by omega, hd, _, (rel.put k eb rv).keeps fun c ys ec => ?_, o, es, ep, ho, r2, r3, r4, r5⟩
    rw [upd_ne (ne_of ec e fun w => nomatch w)]; exact ec
end
/-- an empty dict, whichever keys it will have -/
def EmD (o : HO) : Prop := o = .dK [] ∨ o = .dT []
theorem EmD.mut {o : HO} (h : EmD o) : Mut (some o) := by rcases h with rfl | rfl <;> exact True.intro
/-- one turn of the loop: the state behind it (hN) or the walk's end (hE) -/
abbrev DcTurn (J : It) (g : TG) (tt : TT) (tk tv : TE) (σ : L2.St) (vs : List Nat) (D : Addr) (W : Nat → Nat → Hp → Prop) (Qd : Hp → Prop) : Prop := ∀ i m H, W i m H →
  (J.stop i H ∧ Qd H) ∨ (J.go i H ∧ ∃ Nx : Hp → Prop, (∀ H', Nx H' → ∃ m', m' < m ∧ W (i + 1) m' H') ∧ ∀ x H', J.yld i H x H' → g x (wipe σ vs) H' fun σ2 H2 => wipe σ2 vs = wipe σ vs ∧ tt σ2 H2 fun b H3 =>
    if b = true then tk σ2 H3 fun y H4 => tv σ2 H4 fun z H5 => ∃ H6, DPut H5 D y z H6 ∧ Nx H6 else Nx H3)
def tDcP (wi : TI) (g : TG) (tt : TT) (tk tv : TE) (vs : List Nat) : TE := fun σ H Q => wi σ H fun J H1 => ∀ D, H1 D = none → ∃ o, EmD o ∧ ∃ W : Nat → Nat → Hp → Prop, (∃ m, W 0 m (upd H1 D o)) ∧ DcTurn J g tt tk tv σ vs D W fun H => Q (.ref D) H
/-- the things that a block of a comprehension is given -/
structure DcIn (X : Cx) (kx vx tg : Expr) (ifs : List Expr) (scope : Scope) (g : TG) (tt : TT) (tk tv : TE) : Prop where
  g : ∀ (s : Shared) (H : Hp) (C : Addr) (cl : List (Str × Addr)) (fp : List Addr), PG (X.blk s H scope (compEnvC scope cl C X.env) fp) tg g
  t : ∀ (s : Shared) (H : Hp) (C : Addr) (cl : List (Str × Addr)) (fp : List Addr), PTs (X.blk s H scope (compEnvC scope cl C X.env) fp) ifs tt
  k : ∀ (s : Shared) (H : Hp) (C : Addr) (cl : List (Str × Addr)) (fp : List Addr), PE (X.blk s H scope (compEnvC scope cl C X.env) fp) kx tk
  v : ∀ (s : Shared) (H : Hp) (C : Addr) (cl : List (Str × Addr)) (fp : List Addr), PE (X.blk s H scope (compEnvC scope cl C X.env) fp) vx tv
section
variable {X : Cx}
theorem laid_em {pins : List (Addr × Obj)} {σ : L2.St} {H : Hp} {s : Shared} {o : HO} (I : L2.Inv X pins σ H s) (ho : EmD o) : L2.Inv X pins σ (upd H s.heap.objs.size o) { s with heap := s.heap.push { cls := .type "dict", data := .dict #[] } } := by
  refine I.laid (t' := s.toks) (fun b u e => Heap.get?_push_of_some _ e) (Nat.le_refl _) ?_
  rcases ho with rfl | rfl
  · exact dk_empty s.heap I.big
  · exact dt_empty s.heap I.big
end
end Sg

set_option Elab.async false
set_option linter.all false
set_option maxRecDepth 100000
set_option maxHeartbeats 4000000
namespace Sg
open PySem PySem.Spec PyProof.Rows L2
/-! ### the loop of such a comprehension's block, then the whole -/
section
variable {X : Cx}
theorem dcp_loop {s0 : Shared} {H0 : Hp} {scope : Scope} {ce : Env} {fp : List Addr} {kx vx tg iter : Expr} {ifs : List Expr} {pos : Pos} {g : TG} {tt : TT} {tk tv : TE} {it D : Addr} {J : It} {tn : Nat → Heap → Prop} {σ : L2.St} {vs : List Nat} {W : Nat → Nat → Hp → Prop} {Qd : Hp → Prop} {R : Result → Shared → Prop}
    (hc : X.calm = true) (hu : X.A.units < cLine) (T : Turn X.prog X.w X.K tg J fp it tn) (pg : PG (X.blk s0 H0 scope ce fp) tg g) (pt : PTs (X.blk s0 H0 scope ce fp) ifs tt) (pk : PE (X.blk s0 H0 scope ce fp) kx tk) (pv : PE (X.blk s0 H0 scope ce fp) vx tv)
    (turn : DcTurn J g tt tk tv σ vs D W Qd) (hR : ∀ H s, L2.Inv (X.blk s0 H0 scope ce fp) [] (wipe σ vs) H s → Qd H → R (.ok .next) s)
    {H : Hp} {s : Shared} {m : Nat} (I : L2.Inv (X.blk s0 H0 scope ce fp) [] (wipe σ vs) H s) (ht : tn 0 s.heap) (hf : ∀ b ∈ fp, H b = none) (hW : W 0 m H) :
    codeAny (model X.prog X.w) X.A (.compLoop (.DictComp kx vx [⟨tg, iter, ifs, 0⟩] scope pos) 0 (.ref it) (.ref D) ce) R s := by
  have good : ∀ {τ : L2.St} {G : Hp} {u : Shared}, L2.Inv (X.blk s0 H0 scope ce fp) [] τ G u → (∀ b ∈ fp, G b = none) → ∀ b ∈ fp, FpOk (X.blk s0 H0 scope ce fp) [] G b := fun {τ G u} I' n b hb => by
    have q := I'.ok.exf b hb
    refine ⟨n b hb, q.1, I'.ok.exfs b hb, .inl hb, fun x c e => q.2 x c e, fun p hp => ?_⟩
    rcases List.mem_append.mp hp with z | z <;> cases z
  refine compLoop_anyD (fun n u => ∃ i G, L2.Inv (X.blk s0 H0 scope ce fp) [] (wipe σ vs) G u ∧ tn i u.heap ∧ (∀ b ∈ fp, G b = none) ∧ W i n G) (fun n u hu' => ?_) m ⟨0, H, I, ht, hf, hW⟩
  obtain ⟨i, G, J1, t1, f1, w1⟩ := hu'
  rcases turn i n G w1 with ⟨st, qd⟩ | ⟨go, Nx, nx, step⟩
  · refine thnF (T.done (X.blk s0 H0 scope ce fp) rfl rfl rfl hc i [] u _ G (fun _ _ => False) J1 (good J1 f1) t1 st) fun r u1 ⟨er, J2⟩ => ?_
    subst er
    exact hR G u1 J2 qd
  · refine thnF (T.item (X.blk s0 H0 scope ce fp) rfl rfl rfl hc i [] u _ G (fun _ _ => False) J1 (good J1 f1) t1 go) fun r u1 ⟨a, er, h1⟩ => ?_
    subst er
    refine thnF h1 fun _ u2 ⟨x, G2, J2, rx, y2, t2, f2⟩ => ?_
    have J2p := J2.pinned (good J2 f2) (T.obj _ _ t2)
    have back : ∀ {τ : L2.St} {G' : Hp} {u' : Shared}, L2.Inv (X.blk s0 H0 scope ce fp) ([] ++ pinsAt fp u2.heap) τ G' u' → wipe τ vs = wipe σ vs → Nx G' → ∃ n', n' < n ∧ ∃ i G, L2.Inv (X.blk s0 H0 scope ce fp) [] (wipe σ vs) G u' ∧ tn i u'.heap ∧ (∀ b ∈ fp, G b = none) ∧ W i n' G := fun {τ G' u'} J' ew q => by
      obtain ⟨n', lt, w'⟩ := nx G' q
      have at' : ∀ b ∈ fp, ∀ o, u2.heap.get? b = some o → u'.heap.get? b = some o ∧ G' b = none := fun b hb o e => by
        have z := J'.pin (b, o) (List.mem_append_right _ (List.mem_append_right _ (mem_pinsAt hb e)))
        exact ⟨z.1, z.2.1⟩
      refine ⟨n', lt, i + 1, G', (J'.unpinned (pins := [])).weak (by rw [← ew, wipe_length]) (fun j v e => ?_), T.keep _ _ _ t2 fun b hb o e => (at' b hb o e).1, fun b hb => ?_, w'⟩
      · rw [← ew] at e; exact (wipe_some e).1
      · obtain ⟨o, e, _⟩ := T.obj _ _ t2 b hb
        exact (at' b hb o e).2
    refine thnF (pg.run _ u2 _ G2 x a _ J2p rx (step x G2 y2)) fun _ u3 ⟨τ, G3, J3, ew, q3⟩ => ?_
    refine thnF (pt.run _ u3 τ G3 _ J3 q3) fun b u4 ⟨G4, J4, q4⟩ => ?_
    cases b
    · rw [if_neg Bool.false_ne_true] at q4 ⊢
      exact back J4 ew q4
    · rw [if_pos rfl] at q4 ⊢
      refine thnF (pk.run _ u4 τ G4 _ J4 q4) fun k1 u5 ⟨y, G5, J5, ry, q5⟩ => ?_
      refine thnF (pv.run _ u5 τ G5 _ J5 q5) fun v1 u6 ⟨z, G6, J6, rz, G7, put, q7⟩ => ?_
      exact d_compSet (X := X.blk s0 H0 scope ce fp) hu J6 put ry rz fun u7 J7 => back J7 ew q7
theorem dcP_core {pins : List (Addr × Obj)} {s : Shared} {σ : L2.St} {H : Hp} {Q : VK} {kx vx tg iter : Expr} {ifs : List Expr} {scope : Scope} {own : List (Str × Nat)} {pos pos' : Pos} {wi : TI} {g : TG} {tt : TT} {tk tv : TE} {use : Option (Value → Sem Unit)} {Z : Value → Shared → Prop}
    (hc : X.calm = true) (hu : X.A.units < cLine) (hN : X.N.Nodup) (I : L2.Inv X pins σ H s) (hi : PI X tg iter wi) (ok : BlkOk X.N X.env.scope scope own)
    (inn : DcIn X kx vx tg ifs scope g tt tk tv) (hs : ∀ x, foldedSetIterable iter X.env x = pure x) (h : tDcP wi g tt tk tv (own.map (·.2)) σ H Q)
    (last : ∀ D C u m G, L2.Inv X pins σ G u → Q (.ref D) G → u.heap.Ns C m → FpOk X pins G C → compPost (model X.prog X.w) X.A X.xe use Z (.ref D) C (.ok .next) u) :
    wpAny (model X.prog X.w) X.A (comprehension (.DictComp kx vx [⟨tg, iter, ifs, 0⟩] scope pos) scope X.env pos' newDict false (eval iter X.env) use) Z X.xe s := by
  have clo : ∀ y ∈ scope.names, y.2 = .free → ∃ c, X.env.cells.lookup y.1 = some c := fun y hy e => (ok.free y hy e).elim (fun k => I.ok.has _ (.inl k)) fun k => I.ok.has _ (.inr k)
  refine wpAny_comprehension_free (use := use) rfl hs (closure_ok clo) ok.kind (fun y hy e => by rw [ok.uniq y hy, e]) (thn (hi.run pins s σ H _ I h) fun xv s1 hx => thn hx fun itv s2 h2 => ?_)
  obtain ⟨it, fp, tn, J, H2, rfl, I2, T, t2, f2, q⟩ := h2
  have lt2 : ∀ b ∈ fp, b < s2.heap.objs.size := fun b hb => by
    obtain ⟨o, e, _⟩ := T.obj _ _ t2 b hb
    exact Heap.lt_size e
  obtain ⟨o, em, W, ⟨m0, w0⟩, turn⟩ := q s2.heap.objs.size (I2.hok.fresh (Nat.le_refl _))
  have I3 := laid_em I2 em
  refine wpAny_newObj_type (newEnv_comp ?_)
  have sz3 : s2.heap.objs.size < (s2.heap.push { cls := .type "dict", data := .dict #[] }).objs.size := by rw [Heap.size_push]; exact Nat.lt_succ_self _
  have f3 : ∀ b ∈ fp, FpOk X pins (upd H2 s2.heap.objs.size o) b ∧ b < (s2.heap.push { cls := .type "dict", data := .dict #[] }).objs.size := fun b hb => by
    have l := lt2 b hb
    refine ⟨⟨?_, (f2 b hb).2⟩, Nat.lt_trans l sz3⟩
    rw [upd_ne (Nat.ne_of_lt l)]; exact (f2 b hb).1
  have kp : ∀ b ∈ fp, ∀ o, s2.heap.get? b = some o → (pushCells ((s2.heap.push { cls := .type "dict", data := .dict #[] }).push { cls := .type "dict", data := .dict #[] }) scope.names).get? b = some o := fun b _ o e => pushCells_keeps _ _ _ _ (Heap.get?_push_of_some _ (Heap.get?_push_of_some _ e))
  have I4 := block_start I3 ok hN f3
  generalize hce : compEnvC scope (cellsFrom (({ s2 with heap := s2.heap.push { cls := .type "dict", data := .dict #[] } } : Shared).heap.objs.size + 1) scope.names (cloFrom X.env.cells scope.names [])) ({ s2 with heap := s2.heap.push { cls := .type "dict", data := .dict #[] } } : Shared).heap.objs.size X.env = ce at I4
  have cl : ce.locals = (s2.heap.push { cls := .type "dict", data := .dict #[] }).objs.size := by rw [← hce]; rfl
  show codeAny _ _ (.compStart (.DictComp kx vx [⟨tg, iter, ifs, 0⟩] scope pos) 0 (.ref it) (.ref s2.heap.objs.size) _) (compPost (model X.prog X.w) X.A X.xe use Z (.ref s2.heap.objs.size) _) _
  have loop := dcp_loop (iter := iter) (pos := pos) (R := compPost (model X.prog X.w) X.A X.xe use Z (.ref s2.heap.objs.size) (s2.heap.push { cls := .type "dict", data := .dict #[] }).objs.size) hc hu T (hce ▸ inn.g _ _ _ _ fp) (hce ▸ inn.t _ _ _ _ fp) (hce ▸ inn.k _ _ _ _ fp) (hce ▸ inn.v _ _ _ _ fp) turn
    (fun G u J' qd => ?_) I4 (T.keep _ _ _ t2 kp) (fun b hb => (f3 b hb).1.1) w0
  · subst hce
    exact codeAny_compStart_dict loop (T.self X.A 0 _ _ _ (T.keep _ _ _ t2 kp) loop)
  · have J2 : L2.Inv X pins σ G u := I3.call' (ch := fp) J'.os J'.base J'.hok J'.bare fun b hb => by
      obtain ⟨_, a2, _, a4, a5, a6⟩ := (f3 b hb).1
      exact ⟨a4, a2, a5, a6⟩
    have free : G (s2.heap.push { cls := .type "dict", data := .dict #[] }).objs.size = none := by
      have z : G ce.locals = none := J'.free
      rw [cl] at z; exact z
    obtain ⟨m, ns, _⟩ := J'.loc
    have ns : u.heap.Ns ce.locals m := ns
    rw [cl] at ns
    exact last _ _ u m G J2 qd ns (I3.fpOk (H' := G) (Nat.le_refl _) free)
theorem pe_dcP {kx vx tg iter : Expr} {ifs : List Expr} {scope : Scope} {own : List (Str × Nat)} {pos : Pos} {wi : TI} {g : TG} {tt : TT} {tk tv : TE} (hc : X.calm = true) (hu : X.A.units < cLine) (hN : X.N.Nodup) (hi : PI X tg iter wi) (ok : BlkOk X.N X.env.scope scope own)
    (inn : DcIn X kx vx tg ifs scope g tt tk tv) (hs : ∀ x, foldedSetIterable iter X.env x = pure x := by intro _; rfl) :
    PE X (.DictComp kx vx [⟨tg, iter, ifs, 0⟩] scope pos) (tDcP wi g tt tk tv (own.map (·.2))) := by
  refine ⟨fun pins s σ H Q I h => ?_⟩
  rw [arm_eval_DictComp]
  refine dcP_core hc hu hN I hi ok inn hs h fun D C u m G J q ns ⟨g0, g1, _, g3, g4, g5⟩ => ⟨m, ns, fun h' sb => ?_⟩
  exact ⟨.ref D, G, J.turned (t' := u.toks) (fun b o hb e => (sb.2 b hb).trans e) g0 g1 g3 g4 g5, rfl, q⟩
/-- name = {..} on one line, the name a local -/
theorem ps_setDcP {i : Nat} {y : Str} {py : Pos} {kx vx tg iter : Expr} {ifs : List Expr} {scope : Scope} {own : List (Str × Nat)} {pos spos : Pos} {wi : TI} {g : TG} {tt : TT} {tk tv : TE} (hc : X.calm = true) (hu : X.A.units < cLine) (hN : X.N.Nodup) (hy : X.N[i]? = some y) (hyl : X.env.scope.names.lookup y = some .local)
    (hsw : swapsWith (.DictComp kx vx [⟨tg, iter, ifs, 0⟩] scope pos) (some (.Name y py)) spos.line X.env = pure true) (hi : PI X tg iter wi) (ok : BlkOk X.N X.env.scope scope own)
    (inn : DcIn X kx vx tg ifs scope g tt tk tv) (hs : ∀ x, foldedSetIterable iter X.env x = pure x := by intro _; rfl) :
    PS X (.Assign [.Name y py] (.DictComp kx vx [⟨tg, iter, ifs, 0⟩] scope pos) spos) (tAsg (tDcP wi g tt tk tv (own.map (·.2))) (gName i)) := by
  refine ⟨fun pins s σ H D I h => ?_⟩
  rw [exec_Assign_Name_used _ _ _ _ hsw]
  refine wpAny_bind (wpAny_standAt (wpAny_bind ?_))
  show wpAny _ X.A (comprehension (.DictComp kx vx [⟨tg, iter, ifs, 0⟩] scope pos) scope X.env (firstIterPos [⟨tg, iter, ifs, 0⟩] pos) newDict false (eval iter X.env) (some (assign (.Name y py) X.env)) >>= fun _ => pure ()) _ _ s
  refine wpAny_bind (thn (Q := fun _ s' => SP X pins D .next s') ?_ fun _ s' hq => wpAny_pure (wpAny_pure hq))
  refine dcP_core (Q := fun x G => gName i x σ G D.nx) (use := some (assign (.Name y py) X.env)) hc hu hN I hi ok inn hs h fun L C u m G J q ns ⟨g0, g1, _, g3, g4, g5⟩ => ?_
  refine wpAny_assign_Name (store_ok2 (v := V.ref L) J hN hy (.inl hyl) rfl (fun s2 J2 ⟨a, sb, ha⟩ => ?_) (.inr hyl))
  have off : C ≠ a := ha.elim (fun z => z ▸ g1) fun z e => g4 y a z e.symm
  exact ⟨m, ns.sameBut sb off, fun h3 sb3 => ⟨_, G, J2.turned (t' := s2.toks) (fun b o hb e => (sb3.2 b hb).trans e) g0 g1 g3 g4 g5, q⟩⟩
theorem sw_dc {kx vx : Expr} {gs : List Comprehension} {scope : Scope} {pos py : Pos} {y : Str} {l : Nat} {env : Env} (hk : env.scope.kind = .function) (hy : env.scope.names.lookup y = some .local) (hl : (py.line == pos.line) = true)
    (ha : (scope.names.any fun (n, k) => n == y && (k == .local || k == .cell)) = false) : swapsWith (.DictComp kx vx gs scope pos) (some (.Name y py)) l env = pure true := by
  have k1 : env.kindOf y = some .local := hy
  have k2 : env.blockKind = .function := by rw [Env.blockKind, hk]; rfl
  simp only [swapsWith, k1, k2, ha, Expr.pos, hl]
  rfl
end
end Sg

set_option Elab.async false
set_option linter.all false
set_option maxRecDepth 100000
set_option maxHeartbeats 4000000
namespace Sg
open PySem PySem.Spec PyProof.Rows L2
/-! ### topics, as data -/
def keyD : Key → PyData
  | .inl i => .int i
  | .inr s => .str s
def topD (k : List Key) : PyData := .tuple (k.map keyD)
theorem keyD_eqv {a b : Key} : PyData.eqv (keyD a) (keyD b) = decide (a = b) := by
  cases a with
  | inl i =>
    cases b with
    | inl j =>
      show PyData.eqv (.int i) (.int j) = _
      simp only [PyData.eqv]
      by_cases h : i = j <;> simp [h]
    | inr t => show PyData.eqv (.int i) (.str t) = _; simp [PyData.eqv]
  | inr s =>
    cases b with
    | inl j => show PyData.eqv (.str s) (.int j) = _; simp [PyData.eqv]
    | inr t =>
      show PyData.eqv (.str s) (.str t) = _
      simp only [PyData.eqv]
      by_cases h : s = t <;> simp [h]
theorem keyD_all : ∀ {a b : List Key}, PyData.eqvAll (a.map keyD) (b.map keyD) = decide (a = b)
  | [], [] => by simp [PyData.eqvAll]
  | [], _ :: _ => by simp [PyData.eqvAll]
  | _ :: _, [] => by simp [PyData.eqvAll]
  | x :: a, y :: b => by
    simp only [List.map_cons, PyData.eqvAll, keyD_eqv, keyD_all (a := a) (b := b), List.cons.injEq, Bool.decide_and]
theorem topD_eqv {a b : List Key} : PyData.eqv (topD a) (topD b) = decide (a = b) := by
  unfold topD
  simp only [PyData.eqv, keyD_all]
def KOk (k : List Key) : Prop := ∀ x ∈ k, ∀ s, x = .inr s → PyData.strOk s = true
theorem keys_lay : ∀ {k : List Key}, KOk k → tupOs (k.map keyD) = true ∧ PyData.canLayAll0 (k.map keyD) = true ∧ PyData.depthAll (k.map keyD) = 0
  | [], _ => ⟨rfl, by simp [PyData.canLayAll0], by simp [PyData.depthAll]⟩
  | x :: k, h => by
    obtain ⟨i1, i2, i3⟩ := keys_lay (k := k) fun y hy => h y (List.mem_cons_of_mem _ hy)
    have hx := h x List.mem_cons_self
    cases x with
    | inl i => exact ⟨by simp [keyD, tupOs, tupO, i1], by simp [keyD, PyData.canLayAll0, PyData.canLay0, i2], by simp [keyD, PyData.depthAll, PyData.depth, i3]⟩
    | inr s => exact ⟨by simp [keyD, tupOs, tupO, i1], by simp [keyD, PyData.canLayAll0, PyData.canLay0, i2, hx s rfl], by simp [keyD, PyData.depthAll, PyData.depth, i3]⟩
theorem topD_g {k : List Key} (h : KOk k) : GD 1 (topD k) := by
  obtain ⟨i1, i2, i3⟩ := keys_lay h
  exact ⟨by simp [topD, tupO, i1], by simp [topD, PyData.canLay0, i2], by simp [topD, PyData.depth, i3]⟩
def TopAt (K : PySem.W.Frag) (H : Hp) (t : Addr) (k : List Key) : Prop := SqT K H t (k.map kV)
theorem keys_dp {K : PySem.W.Frag} {H : Hp} : ∀ {k : List Key}, DpAll K H (k.map kV) (k.map keyD)
  | [] => .nil
  | .inl i :: _ => .cons (.int i) keys_dp
  | .inr s :: _ => .cons (.str s) keys_dp
theorem TopAt.dp {K : PySem.W.Frag} {H : Hp} {t : Addr} {k : List Key} (h : TopAt K H t k) : Dp K H (.ref t) (topD k) := .tup h keys_dp
end Sg

set_option Elab.async false
set_option linter.all false
set_option maxRecDepth 100000
set_option maxHeartbeats 4000000
namespace Sg
open PySem PySem.Spec PyProof.Rows L2
/-! ### a table without one of its names: {x: d[x] for x in d if x != y} -/
theorem dcp_it {J : It} {n : Nat} {G : Hp → Prop} {Y : Nat → Hp → V → Hp → Prop} (w : Walk J n G Y) {g : TG} {tt : TT} {tk tv : TE} {vs : List Nat} {σ : L2.St} {H1 : Hp} {D : Addr} {Qd : Hp → Prop} (Pv : Nat → Hp → Prop) {o : HO} (h0 : Pv 0 (upd H1 D o)) (hG : ∀ i H, i ≤ n → Pv i H → G H)
    (hs : ∀ i x H H', i < n → Pv i H → Y i H x H' → g x (wipe σ vs) H' fun σ2 H2 => wipe σ2 vs = wipe σ vs ∧ tt σ2 H2 fun b H3 =>
      if b = true then tk σ2 H3 fun y H4 => tv σ2 H4 fun z H5 => ∃ H6, DPut H5 D y z H6 ∧ Pv (i + 1) H6 else Pv (i + 1) H3) (hd : ∀ H, Pv n H → Qd H) :
    ∃ W : Nat → Nat → Hp → Prop, (∃ m, W 0 m (upd H1 D o)) ∧ DcTurn J g tt tk tv σ vs D W Qd := by
  refine ⟨fun i m H => m + i = n ∧ Pv i H, ⟨n, rfl, h0⟩, fun i m H ⟨e, p⟩ => ?_⟩
  cases m with
  | zero =>
    have e' : i = n := by omega
    subst e'
    exact .inl ⟨w.stops H (hG _ H (Nat.le_refl _) p), hd H p⟩
  | succ m =>
    have lt : i < n := by omega
    have q := hG i H (Nat.le_of_lt lt) p
    exact .inr ⟨w.goes i H lt q, Pv (i + 1), fun H' p' => ⟨m, Nat.lt_succ_self m, by omega, p'⟩, fun x H' y => hs i x H H' lt p (w.yields i H x H' lt q y)⟩
/-- the two kinds of tables in one -/
structure TKd (K : PySem.W.Frag) (κ : Type) [DecidableEq κ] where
  ho : List (κ × V) → HO
  at' : Hp → V → κ → Prop
  dat : κ → PyData
  ok : κ → Prop
  em : EmD (ho [])
  mt : ∀ l, Mut (some (ho l))
  nt : ∀ l, (∀ xs, ho l ≠ .tup xs) ∧ ∀ o u, ho l ≠ .frz o u
  get : ∀ {H : Hp} {d : Addr} {l : List (κ × V)} {y : V} {k : κ}, Rd H d (ho l) → at' H y k → DGet H d y (valV l k)
  put : ∀ {H : Hp} {d : Addr} {l : List (κ × V)} {y v : V} {k : κ}, H d = some (ho l) → at' H y k → l.length < sizeLine → DPut H d y v (upd H d (ho (putK l k v)))
  tk : ∀ {H H' : Hp} {y : V} {k : κ}, TK H H' → at' H y k → at' H' y k
  dp : ∀ {H : Hp} {y : V} {k : κ}, at' H y k → Dp K H y (dat k)
  sh : ∀ {k : κ}, ok k → SeqAt.shaped (dat k) = true
  eqv : ∀ {a b : κ}, PyData.eqv (dat a) (dat b) = decide (a = b)
  walk : ∀ {d : Addr} {o : Obj} {l : List (κ × V)} {H : Hp} {R : It → Hp → Prop}, H d = some (.frz o (ho l)) →
    (∀ J, Walk J l.length (fun H => H d = some (.frz o (ho l))) (fun i H x H' => H' = H ∧ ∃ k v, l[i]? = some (k, v) ∧ at' H x k) → R J H) →
    (∃ kvs, H d = some (.frz o (.dK kvs)) ∧ R (Itk d o kvs) H) ∨ ∃ kvs, H d = some (.frz o (.dT kvs)) ∧ R (Itkt d o kvs) H
def kdK (K : PySem.W.Frag) : TKd K Key where
  ho := .dK
  at' := fun _ y k => y = kV k
  dat := keyD
  ok := fun k => KOk [k]
  em := .inl rfl
  mt := fun _ => True.intro
  nt := fun l => ⟨fun _ h => (nomatch h), fun _ _ h => (nomatch h)⟩
  get := fun h e => by subst e; exact .inl ⟨_, _, h, rfl, rfl⟩
  put := fun h e hl => by subst e; exact DPut.k h hl
  tk := fun _ h => h
  dp := fun {H y k} e => by
    subst e
    cases k with
    | inl i => exact .int i
    | inr s => exact .str s
  sh := fun {k} h => by
    obtain ⟨h1, h2, h3⟩ := keys_lay h
    refine shaped_of ?_ ?_
    · simp only [List.map_cons, List.map_nil, PyData.canLayAll0, Bool.and_true] at h2; exact h2
    · simp only [List.map_cons, List.map_nil, PyData.depthAll] at h3; omega
  eqv := keyD_eqv
  walk := fun {d o l H R} h q => .inl ⟨l, h, q _ ⟨walk_keys.goes, walk_keys.stops, fun i H x H' a b c => by
    obtain ⟨e, k, v, h1, h2⟩ := walk_keys.yields i H x H' a b c
    exact ⟨e, k, v, h1, h2⟩⟩⟩
def kdT (K : PySem.W.Frag) : TKd K (List Key) where
  ho := .dT
  at' := fun H y k => ∃ b, y = .ref b ∧ H b = some (.tup (k.map kV))
  dat := topD
  ok := KOk
  em := .inr rfl
  mt := fun _ => True.intro
  nt := fun l => ⟨fun _ h => (nomatch h), fun _ _ h => (nomatch h)⟩
  get := fun {H d l y k} h e => by obtain ⟨b, rfl, hb⟩ := e; exact .inr ⟨l, k, b, h, rfl, hb, rfl⟩
  put := fun h e hl => by obtain ⟨b, rfl, hb⟩ := e; exact DPut.t h hb hl
  tk := fun s e => by obtain ⟨b, rfl, hb⟩ := e; exact ⟨b, rfl, s.t _ _ hb⟩
  dp := fun e => by obtain ⟨b, rfl, hb⟩ := e; exact TopAt.dp (SqT.of hb)
  sh := fun h => (topD_g h).sh (by decide)
  eqv := topD_eqv
  walk := fun {d o l H R} h q => .inr ⟨l, h, q _ ⟨walk_keysT.goes, walk_keysT.stops, fun i H x H' a b c => by
    obtain ⟨e, k, v, b, h1, h2, h3⟩ := walk_keysT.yields i H x H' a b c
    exact ⟨e, k, v, h1, b, h2, h3⟩⟩⟩
theorem tk_upd {H : Hp} {d : Addr} {o u : HO} (h : H d = some o) (n1 : ∀ xs, o ≠ .tup xs) (n2 : ∀ a b, o ≠ .frz a b) : TK H (upd H d u) := by
  refine ⟨fun a xs e => ?_, fun a b xs e => ?_⟩
  · rw [upd_ne (fun z => by rw [z, h] at e; exact n1 _ (Option.some.inj e))]; exact e
  · rw [upd_ne (fun z => by rw [z, h] at e; exact n2 _ _ (Option.some.inj e))]; exact e
section
variable {κ : Type} [DecidableEq κ]
theorem dropK_take {l : List (κ × V)} {k0 k : κ} {v : V} {i : Nat} (h : l[i]? = some (k, v)) : dropK (l.take (i + 1)) k0 = dropK (l.take i) k0 ++ (if k = k0 then [] else [(k, v)]) := by
  unfold dropK
  rw [List.take_add_one, h, List.filter_append]
  by_cases c : k = k0 <;> simp [c]
theorem valV_none {l : List (κ × V)} {k : κ} (h : ∀ p ∈ l, p.1 ≠ k) : valV l k = none := by
  cases e : valV l k with
  | none => rfl
  | some v => 
    have := valV_any (kvs := l) (k := k)
    rw [e] at this
    obtain ⟨p, hp, hk⟩ := List.any_eq_true.mp this
    exact absurd (of_decide_eq_true hk) (h p hp)
theorem valV_get {l : List (κ × V)} {k : κ} {v : V} {i : Nat} (nd : (l.map (·.1)).Nodup) (h : l[i]? = some (k, v)) : valV l k = some v := by
  induction l generalizing i with
  | nil => simp at h
  | cons p r ih =>
    rw [List.map_cons, List.nodup_cons] at nd
    cases i with
    | zero =>
      obtain rfl : p = (k, v) := by simpa using h
      exact valV_pos rfl
    | succ i =>
      have h' : r[i]? = some (k, v) := by simpa using h
      rw [valV_neg (fun e => nd.1 (List.mem_map.mpr ⟨_, List.mem_of_getElem? h', e.symm⟩))]
      exact ih nd.2 h'
theorem new_take {l : List (κ × V)} {k0 k : κ} {v : V} {i : Nat} (nd : (l.map (·.1)).Nodup) (h : l[i]? = some (k, v)) : valV (dropK (l.take i) k0) k = none := by
  refine valV_none fun p hp e => ?_
  have hp' : p ∈ l.take i := (List.mem_filter.mp hp).1
  obtain ⟨j, hj⟩ := List.mem_iff_getElem?.mp hp'
  have hji : j < i := by
    have := (List.getElem?_eq_some_iff.mp hj).1
    rw [List.length_take] at this; omega
  rw [List.getElem?_take_of_lt hji] at hj
  have h1 : (l.map (·.1))[j]? = some k := by rw [List.getElem?_map, hj, ← e]; rfl
  have h2 : (l.map (·.1))[i]? = some k := by rw [List.getElem?_map, h]; rfl
  have lj := (List.getElem?_eq_some_iff.mp h1).1
  have li := (List.getElem?_eq_some_iff.mp h2).1
  have e1 := (List.getElem?_eq_some_iff.mp h1).2
  have e2 := (List.getElem?_eq_some_iff.mp h2).2
  exact (List.pairwise_iff_getElem.mp nd) j i lj li hji (e1.trans e2.symm)
end
end Sg

set_option Elab.async false
set_option linter.all false
set_option maxRecDepth 100000
set_option maxHeartbeats 4000000
namespace Sg
open PySem PySem.Spec PyProof.Rows L2
section
variable {K : PySem.W.Frag} {κ : Type} [DecidableEq κ]
theorem dropK_len {l : List (κ × V)} {k : κ} : (dropK l k).length ≤ l.length := List.length_filter_le _ _
/-- the comprehension alone, the table locked -/
theorem keep_dc (T : TKd K κ) {σ : L2.St} {H1 : Hp} {Q : VK} {jt jn jx : Nat} {d : Addr} {od : Obj} {kvs : List (κ × V)} {k0 : κ} {y0 : V} (hjx : jx < σ.length) (htx : jt ≠ jx) (hnx : jn ≠ jx) (ht : σ[jt]? = some (some (.ref d))) (hn : σ[jn]? = some (some y0))
    (hd1 : H1 d = some (.frz od (T.ho kvs))) (hk : T.at' H1 y0 k0) (ok0 : T.ok k0) (ok : ∀ p ∈ kvs, T.ok p.1) (nd : (kvs.map (·.1)).Nodup) (hl : kvs.length ≤ 1000)
    (q : ∀ D H', Same H1 H' → H1 D = none → H' D = some (T.ho (dropK kvs k0)) → Q (.ref D) H') :
    tDcP (iKeys (tVar jt)) (gName jx) (tTest (tOp (rNeD K) (tVar jx) (tVar jn))) (tVar jx) (tDGet (tVar jt) (tVar jx)) [jx] σ H1 Q := by
  refine ⟨_, ht, d, od, rfl, T.walk (R := fun J G => ∀ D, G D = none → ∃ o, EmD o ∧ ∃ W : Nat → Nat → Hp → Prop, (∃ m, W 0 m (upd G D o)) ∧ DcTurn J (gName jx) (tTest (tOp (rNeD K) (tVar jx) (tVar jn))) (tVar jx) (tDGet (tVar jt) (tVar jx)) σ [jx] D W fun G' => Q (.ref D) G') hd1 fun J w D hD => ⟨T.ho [], T.em, ?_⟩⟩
  refine dcp_it w (fun i H' => Same H1 H' ∧ H' D = some (T.ho (dropK (kvs.take i) k0))) ⟨same_new hD, upd_same⟩ (fun i H' _ p => p.1 _ _ hd1) ?_ ?_
  · rintro i x H' H'' hi ⟨sm, hDi⟩ ⟨rfl, k, v, hki, hat⟩
    have g1 : ((wipe σ [jx]).set jx (some x))[jx]? = some (some x) := by
      rw [List.getElem?_set_self (by rw [wipe_length]; exact hjx)]
    have gt : ((wipe σ [jx]).set jx (some x))[jt]? = some (some (.ref d)) := by
      rw [List.getElem?_set_ne (Ne.symm htx)]
      show (σ.set jx none)[jt]? = _
      rw [List.getElem?_set_ne (Ne.symm htx)]; exact ht
    have gn : ((wipe σ [jx]).set jx (some x))[jn]? = some (some y0) := by
      rw [List.getElem?_set_ne (Ne.symm hnx)]
      show (σ.set jx none)[jn]? = _
      rw [List.getElem?_set_ne (Ne.symm hnx)]; exact hn
    have hat0 : T.at' H'' y0 k0 := T.tk (TK.of sm) hk
    refine ⟨?_, ?_⟩
    · show ((σ.set jx none).set jx (some x)).set jx none = σ.set jx none
      rw [List.set_set, List.set_set]
    · refine ⟨_, g1, _, gn, _, _, T.dp hat, T.dp hat0, T.sh (ok _ (List.mem_of_getElem? hki)), T.sh ok0, _, rfl, ?_⟩
      rw [T.eqv]
      dsimp only
      have lt : (kvs.take i).length ≤ 1000 := by rw [List.length_take]; omega
      by_cases c : k = k0
      · rw [if_neg (by simp [c])]
        refine ⟨sm, ?_⟩
        rw [dropK_take hki, if_pos c, List.append_nil]; exact hDi
      · rw [if_pos (by simp [c])]
        refine ⟨_, g1, _, gt, _, g1, d, v, rfl, ?_, _, T.put (l := dropK (kvs.take i) k0) hDi hat (small1000 (Nat.le_trans dropK_len lt)), ?_, ?_⟩
        · have := T.get (.inr ⟨od, sm _ _ hd1⟩) hat
          rw [valV_get nd hki] at this; exact this
        · intro b o e
          have : b ≠ D := fun z => by rw [z, hD] at e; cases e
          rw [upd_ne this]; exact sm _ _ e
        · rw [dropK_take hki, if_neg c, putK_new v (new_take nd hki)]; exact upd_same
  · rintro H' ⟨sm, hDn⟩
    exact q D _ sm hD (by rw [hDn, List.take_length])
theorem lock_same {H H1 H' : Hp} {d : Addr} {o u : HO} (hd : H d = some o) (e1 : H1 = upd H d u) (sm : Same H1 H') : Same H (upd H' d o) := fun b x e => by
  by_cases c : b = d
  · rw [c, hd] at e; cases e
    rw [c]; exact upd_same
  · rw [upd_ne c]; exact sm _ _ (by rw [e1, upd_ne c]; exact e)
theorem lock_free {H : Hp} {d D : Addr} {u : HO} (h : (upd H d u) D = none) : D ≠ d ∧ H D = none := by
  by_cases c : D = d
  · rw [c, upd_same] at h; cases h
  · rw [upd_ne c] at h; exact ⟨c, h⟩
theorem keep_te (T : TKd K κ) {σ : L2.St} {H : Hp} {Q : VK} {jt jn jx : Nat} {d : Addr} {kvs : List (κ × V)} {k0 : κ} {y0 : V} (hjx : jx < σ.length) (htx : jt ≠ jx) (hnx : jn ≠ jx) (ht : σ[jt]? = some (some (.ref d))) (hn : σ[jn]? = some (some y0))
    (hd : H d = some (T.ho kvs)) (hk : T.at' H y0 k0) (ok0 : T.ok k0) (ok : ∀ p ∈ kvs, T.ok p.1) (nd : (kvs.map (·.1)).Nodup) (hl : kvs.length ≤ 1000)
    (q : ∀ D H', Same H H' → H D = none → H' D = some (T.ho (dropK kvs k0)) → Q (.ref D) H') :
    tLockE (tDcP (iKeys (tVar jt)) (gName jx) (tTest (tOp (rNeD K) (tVar jx) (tVar jn))) (tVar jx) (tDGet (tVar jt) (tVar jx)) [jx]) σ H Q := by
  refine ⟨d, T.ho kvs, hd, T.mt _, fun od => keep_dc T hjx htx hnx ht hn upd_same (T.tk (tk_upd hd (T.nt kvs).1 (T.nt kvs).2) hk) ok0 ok nd hl fun D H' sm hD hDn => ?_⟩
  obtain ⟨n, f⟩ := lock_free hD
  exact ⟨sm _ _ upd_same, q D _ (lock_same hd rfl sm) f (by rw [upd_ne n]; exact hDn)⟩
theorem keep_ts (T : TKd K κ) {σ : L2.St} {H : Hp} {D0 : Ends} {i jt jn jx : Nat} {d : Addr} {kvs : List (κ × V)} {k0 : κ} {y0 : V} (hjx : jx < σ.length) (htx : jt ≠ jx) (hnx : jn ≠ jx) (ht : σ[jt]? = some (some (.ref d))) (hn : σ[jn]? = some (some y0))
    (hd : H d = some (T.ho kvs)) (hk : T.at' H y0 k0) (ok0 : T.ok k0) (ok : ∀ p ∈ kvs, T.ok p.1) (nd : (kvs.map (·.1)).Nodup) (hl : kvs.length ≤ 1000)
    (q : ∀ D H', Same H H' → H D = none → H' D = some (T.ho (dropK kvs k0)) → D0.nx (σ.set i (some (.ref D))) H') :
    tLock (tAsg (tDcP (iKeys (tVar jt)) (gName jx) (tTest (tOp (rNeD K) (tVar jx) (tVar jn))) (tVar jx) (tDGet (tVar jt) (tVar jx)) [jx]) (gName i)) D0 σ H := by
  refine ⟨d, T.ho kvs, hd, T.mt _, fun od => keep_dc T hjx htx hnx ht hn upd_same (T.tk (tk_upd hd (T.nt kvs).1 (T.nt kvs).2) hk) ok0 ok nd hl fun D H' sm hD hDn => ?_⟩
  obtain ⟨n, f⟩ := lock_free hD
  exact ⟨sm _ _ upd_same, q D _ (lock_same hd rfl sm) f (by rw [upd_ne n]; exact hDn)⟩
end
end Sg

set_option Elab.async false
set_option linter.all false
set_option maxRecDepth 100000
set_option maxHeartbeats 4000000
namespace Sg
open PySem PySem.Spec PyProof.Rows L2
theorem chooseF' {b : Bool} {A B : Prop} (h : b = false) (x : B) : (if b = true then A else B) := by rw [h]; exact x
theorem chooseT' {b : Bool} {A B : Prop} (h : b = true) (x : A) : (if b = true then A else B) := by rw [if_pos h]; exact x
section
variable {K : PySem.W.Frag} {κ : Type} [DecidableEq κ]
theorem newF_take {l : List (κ × V)} {f : κ → Bool} {k : κ} {v : V} {i : Nat} (nd : (l.map (·.1)).Nodup) (h : l[i]? = some (k, v)) : valV ((l.take i).filter fun p => f p.1) k = none := by
  refine valV_none fun p hp e => ?_
  obtain ⟨j, hj⟩ := List.mem_iff_getElem?.mp (List.mem_filter.mp hp).1
  have hji : j < i := by
    have := (List.getElem?_eq_some_iff.mp hj).1
    rw [List.length_take] at this; omega
  rw [List.getElem?_take_of_lt hji] at hj
  have h1 : (l.map (·.1))[j]? = some k := by rw [List.getElem?_map, hj, ← e]; rfl
  have h2 : (l.map (·.1))[i]? = some k := by rw [List.getElem?_map, h]; rfl
  have lj := (List.getElem?_eq_some_iff.mp h1).1
  have li := (List.getElem?_eq_some_iff.mp h2).1
  exact (List.pairwise_iff_getElem.mp nd) j i lj li hji ((List.getElem?_eq_some_iff.mp h1).2.trans (List.getElem?_eq_some_iff.mp h2).2.symm)
/-- those of a table whose name a test takes -/
theorem keepF_dc (T : TKd K κ) {σ : L2.St} {H1 : Hp} {Q : VK} {jt jx : Nat} {d : Addr} {od : Obj} {kvs : List (κ × V)} {tt : TT} (f : κ → Bool) (hjx : jx < σ.length) (htx : jt ≠ jx) (ht : σ[jt]? = some (some (.ref d)))
    (hd1 : H1 d = some (.frz od (T.ho kvs))) (nd : (kvs.map (·.1)).Nodup) (hl : kvs.length ≤ 1000)
    (he : ∀ x k H' (Q' : Bool → Hp → Prop), k ∈ kvs.map (·.1) → T.at' H' x k → Same H1 H' → Q' (f k) H' → tt ((σ.set jx none).set jx (some x)) H' Q')
    (q : ∀ D H', Same H1 H' → H1 D = none → H' D = some (T.ho (kvs.filter fun p => f p.1)) → Q (.ref D) H') :
    tDcP (iKeys (tVar jt)) (gName jx) tt (tVar jx) (tDGet (tVar jt) (tVar jx)) [jx] σ H1 Q := by
  refine ⟨_, ht, d, od, rfl, T.walk (R := fun J G => ∀ D, G D = none → ∃ o, EmD o ∧ ∃ W : Nat → Nat → Hp → Prop, (∃ m, W 0 m (upd G D o)) ∧ DcTurn J (gName jx) tt (tVar jx) (tDGet (tVar jt) (tVar jx)) σ [jx] D W fun G' => Q (.ref D) G') hd1 fun J w D hD => ⟨T.ho [], T.em, ?_⟩⟩
  refine dcp_it w (fun i H' => Same H1 H' ∧ H' D = some (T.ho ((kvs.take i).filter fun p => f p.1))) ⟨same_new hD, upd_same⟩ (fun i H' _ p => p.1 _ _ hd1) ?_ ?_
  · rintro i x H' H'' hi ⟨sm, hDi⟩ ⟨rfl, k, v, hki, hat⟩
    have g1 : ((wipe σ [jx]).set jx (some x))[jx]? = some (some x) := by
      rw [List.getElem?_set_self (by rw [wipe_length]; exact hjx)]
    have gt : ((wipe σ [jx]).set jx (some x))[jt]? = some (some (.ref d)) := by
      rw [List.getElem?_set_ne (Ne.symm htx)]
      show (σ.set jx none)[jt]? = _
      rw [List.getElem?_set_ne (Ne.symm htx)]; exact ht
    refine ⟨?_, ?_⟩
    · show ((σ.set jx none).set jx (some x)).set jx none = σ.set jx none
      rw [List.set_set, List.set_set]
    · refine he x k H'' _ (List.mem_map.mpr ⟨_, List.mem_of_getElem? hki, rfl⟩) hat sm ?_
      have tks : (kvs.take (i + 1)).filter (fun p => f p.1) = (kvs.take i).filter (fun p => f p.1) ++ (if f k = true then [(k, v)] else []) := by
        rw [List.take_add_one, hki, List.filter_append]
        by_cases c : f k = true <;> simp [c]
      have lt : (kvs.take i).length ≤ 1000 := by rw [List.length_take]; omega
      by_cases c : f k = true
      · refine chooseT' c ?_
        refine ⟨_, g1, _, gt, _, g1, d, v, rfl, ?_, _, T.put (l := (kvs.take i).filter fun p => f p.1) hDi hat (small1000 (Nat.le_trans (List.length_filter_le _ _) lt)), ?_, ?_⟩
        · have := T.get (.inr ⟨od, sm _ _ hd1⟩) hat
          rw [valV_get nd hki] at this; exact this
        · intro b o e
          have : b ≠ D := fun z => by rw [z, hD] at e; cases e
          rw [upd_ne this]; exact sm _ _ e
        · rw [tks, if_pos c, putK_new v (newF_take nd hki)]; exact upd_same
      · refine chooseF' (by simpa using c) ⟨sm, ?_⟩
        rw [tks, if_neg c, List.append_nil]; exact hDi
  · rintro H' ⟨sm, hDn⟩
    exact q D _ sm hD (by rw [hDn, List.take_length])
end
end Sg

set_option Elab.async false
set_option linter.all false
set_option maxRecDepth 100000
set_option maxHeartbeats 4000000
namespace Sg
open PySem PySem.Spec PyProof.Rows L2
/-! ### dict(l) of a list of pairs, the keys of either kind -/
section
variable {κ : Type} [DecidableEq κ]
def mergeG (kvs more : List (κ × V)) : List (κ × V) := more.foldl (fun acc kv => putK acc kv.1 kv.2) kvs
theorem merge_new : ∀ (more acc : List (κ × V)), ((acc ++ more).map (·.1)).Nodup → mergeG acc more = acc ++ more
  | [], acc, _ => (List.append_nil acc).symm
  | p :: r, acc, nd => by
    have hn : valV acc p.1 = none := valV_none fun q hq e => by
      rw [List.map_append, List.nodup_append] at nd
      exact nd.2.2 q.1 (List.mem_map.mpr ⟨q, hq, rfl⟩) p.1 (by simp) e
    show mergeG (putK acc p.1 p.2) r = _
    rw [putK_new p.2 hn, merge_new r _ (by rw [List.append_assoc]; exact nd), List.append_assoc]
    rfl
theorem merge_nodup {l : List (κ × V)} (nd : (l.map (·.1)).Nodup) : mergeG [] l = l := merge_new l [] nd
end
theorem KT.mergeG {H : Hp} : ∀ {more : List (List Key × V)} {ps : List (List Key × Addr × Value)} {kvs : List (List Key × V)} {xs : List (List Key × Addr × Value)}, KT H more ps → KT H kvs xs → KT H (Sg.mergeG kvs more) (storedAllH xs ps) := by
  intro more ps kvs xs r
  unfold KT at r
  induction r generalizing kvs xs with
  | nil => exact fun h => h
  | @cons a b as bs h t ih =>
    intro r0
    have e : KT H (putK kvs a.1 a.2) (storedH xs b.1 b.2.1 b.2.2) := by
      have := r0.put a.1 h.2.1 h.2.2
      rw [← h.1]; exact this
    exact ih e
section
variable {X : Cx}
theorem pairs_ofT {pins : List (Addr × Obj)} {σ : L2.St} {H : Hp} {s : Shared} (I : L2.Inv X pins σ H s) : ∀ {ps : List Addr} {kvs : List (List Key × V)}, Paired (fun p kv => ∃ b, SqT X.K H p [.ref b, kv.2] ∧ H b = some (.tup (kv.1.map kV))) ps kvs →
    ∃ (prs : List (List Key × Addr × Value)) (us : List (Value × Value)), KT H kvs prs ∧ prs.length = ps.length ∧ us.length = ps.length ∧ ∀ (j : Nat) (k v : Value), us[j]? = some (k, v) → (∃ b : Addr, ps[j]? = some b ∧ IsTup s.heap b #[k, v]) ∧ ∃ key b, prs[j]? = some (key, b, v) ∧ k = .ref b
  | _, _, .nil => ⟨[], [], .nil, rfl, rfl, fun j k v e => by simp at e⟩
  | _, _, .cons (a := p) (b := kv) h t => by
    obtain ⟨prs, us, r, hl, hl2, hp⟩ := pairs_ofT I t
    obtain ⟨b, h, hb⟩ := h
    obtain ⟨its, rv, ht, _⟩ := I.tuple h
    obtain ⟨u, y, ei, ru, ry⟩ := vals2 rv
    subst ei
    obtain rfl : u = Value.ref b := ru
    refine ⟨(kv.1, b, y) :: prs, (.ref b, y) :: us, .cons ⟨rfl, hb, ry⟩ r, by rw [List.length_cons, List.length_cons, hl], by rw [List.length_cons, List.length_cons, hl2], fun j k v e => ?_⟩
    cases j with
    | zero =>
      have e' : (Value.ref b, y) = (k, v) := Option.some.inj e
      cases e'
      exact ⟨⟨p, rfl, ht⟩, kv.1, b, rfl, rfl⟩
    | succ j =>
      obtain ⟨⟨b', e1, e2⟩, key, b2, e3, e4⟩ := hp j k v (by simpa using e)
      exact ⟨⟨b', by simpa using e1, e2⟩, key, b2, by simpa using e3, e4⟩
def rDictL (K : PySem.W.Frag) : List V → Hp → VK → Prop := fun xs H Q => ∃ (a : Addr) (ps : List Addr), xs = [.ref a] ∧ SqL K H a (ps.map V.ref) ∧
  ((∃ kvs : List (Key × V), Paired (fun p kv => SqT K H p [kV kv.1, kv.2]) ps kvs ∧ (kvs.map (·.1)).Nodup ∧ ∀ p, H p = none → Q (.ref p) (upd H p (.dK kvs))) ∨
   ∃ kvs : List (List Key × V), Paired (fun p kv => ∃ b, SqT K H p [.ref b, kv.2] ∧ H b = some (.tup (kv.1.map kV))) ps kvs ∧ (kvs.map (·.1)).Nodup ∧ ∀ p, H p = none → Q (.ref p) (upd H p (.dT kvs)))
theorem call_dictL (hcalm : X.calm = true) (hu : X.A.units + 2 < cLine) : CallR X (.type "dict") (rDictL X.K) := by
  intro pins s σ H xs us Q I r q
  obtain ⟨a, ps, ex, hq, q⟩ := q
  subst ex
  obtain ⟨u, eu, rx⟩ := vals1 r
  subst eu
  cases rx
  obtain ⟨its, rv, pl, hz⟩ := I.list hq
  have ei := refs_at rv
  subst ei
  rw [List.length_map] at hz
  have hh := I.ok.hd hcalm
  have hm : (s.heap.objs.size == sysModules) = false := beq_eq_false_iff_ne.mpr (Nat.ne_of_gt I.big)
  rcases q with ⟨kvs, hp, nd, q⟩ | ⟨kvs, hp, nd, q⟩
  · obtain ⟨prs, us2, rel, hl, hl2, hpr⟩ := pairs_of2 I hp
    refine PySem.call_dict_pairs (knd := mixKind X.prog X.w) (kvs := prs) (PairArg.list a (ps.map Value.ref).toArray (fun j => ps.getD j 0) us2) hh ⟨pl, ?_, fun j k v e => ?_⟩ ⟨?_, fun j k v e => ?_⟩ ?_ fun h' tk hd' k => ?_
    · simp [hl2]
    · obtain ⟨⟨b, e1, e2⟩, _⟩ := hpr j k v e
      have e3 : ps.getD j 0 = b := by rw [List.getD_eq_getElem?_getD, e1]; rfl
      show _ = some (Value.ref (ps.getD j 0)) ∧ PairAt s.heap (ps.getD j 0) k v
      rw [e3]
      exact ⟨by simp [e1], .inl e2⟩
    · rw [hl, hl2]
    · obtain ⟨_, key, e3, e4⟩ := hpr j k v e
      exact ⟨key, e3, e4⟩
    · rw [hl2]; exact hz
    · have hlen : kvs.length ≤ sizeLine := by rw [rel.length, hl]; exact hz
      have rm : KV (mergeK [] kvs) (merged [] prs) := KV.merge rel .nil
      have em : mergeK [] kvs = kvs := merge_nodup nd
      rw [em] at rm
      exact ⟨.ref s.heap.objs.size, upd H s.heap.objs.size (.dK kvs), I.laid (t' := tk) (fun b o e => k b o (by simp) e) (Nat.le_refl _) (show ObjOk X.prog X.w _ _ _ (.dK kvs) from ⟨hlen, hm, merged [] prs, rm, hd'⟩), rfl, q _ (I.hok.fresh (Nat.le_refl _))⟩
  · obtain ⟨prs, us2, rel, hl, hl2, hpr⟩ := pairs_ofT I hp
    have key : ∀ x ∈ prs, ∃ ks, H x.2.1 = some (.tup (ks.map kV)) ∧ x.1 = ks := fun x hx => by
      obtain ⟨j, hj⟩ := List.mem_iff_getElem?.mp hx
      have jl := (List.getElem?_eq_some_iff.mp hj).1
      have kl := Paired.length rel
      obtain ⟨y, hy, q1, q2, q3⟩ := paired_get rel (show kvs[j]? = some (kvs[j]'(by omega)) from List.getElem?_eq_getElem (by omega))
      rw [hj] at hy; cases hy
      exact ⟨_, q2, q1.symm⟩
    refine PySem.call_dict_pairsH (knd := tupleKind (mixKind X.prog X.w)) (ps := prs) (PairArg.list a (ps.map Value.ref).toArray (fun j => ps.getD j 0) us2) hh (tupleKind_room_in1 (A := X.A.in1) hu) ⟨pl, ?_, fun j k v e => ?_⟩ ⟨?_, fun j k v e => ?_⟩ (fun h' hk x hx => ?_) ?_ fun h' tk hd' k => ?_
    · simp [hl2]
    · obtain ⟨⟨b, e1, e2⟩, _⟩ := hpr j k v e
      have e3 : ps.getD j 0 = b := by rw [List.getD_eq_getElem?_getD, e1]; rfl
      show _ = some (Value.ref (ps.getD j 0)) ∧ PairAt s.heap (ps.getD j 0) k v
      rw [e3]
      exact ⟨by simp [e1], .inl e2⟩
    · rw [hl, hl2]
    · obtain ⟨_, key, b, e3, e4⟩ := hpr j k v e
      exact ⟨key, b, e3, e4⟩
    · obtain ⟨ks, hb, ex⟩ := key x hx
      rw [ex]
      obtain ⟨o, vs, n, g1, g2, g3, g4⟩ := key_of I.hok hb
      exact ⟨o, vs, n, hk _ _ (Nat.ne_of_lt (Heap.lt_size g1)) (by simp) g1, g2, g3, g4⟩
    · rw [hl2]; exact hz
    · have hlen : kvs.length ≤ sizeLine := by rw [Paired.length rel, hl]; exact hz
      have rm : KT H (Sg.mergeG [] kvs) (storedAllH [] prs) := KT.mergeG rel .nil
      rw [merge_nodup nd] at rm
      have fr := I.hok.fresh (Nat.le_refl s.heap.objs.size)
      obtain ⟨o, es, ep, g1, g2, g3, g4, g5, g6⟩ := hd'
      refine ⟨.ref s.heap.objs.size, upd H s.heap.objs.size (.dT kvs), I.laid (t' := tk) (fun b o e => k b o (by simp) e) (Nat.le_refl _) (show ObjOk X.prog X.w _ _ _ (.dT kvs) from ⟨hlen, hm, storedAllH [] prs, rm.keeps (fun b ys e => ?_), o, es, ep, g1, g2, g3, g4, g6⟩), rfl, q _ fr⟩
      rw [upd_ne (ne_of_none e fr)]; exact e
end
end Sg

set_option Elab.async false
set_option linter.all false
set_option maxRecDepth 100000
set_option maxHeartbeats 4000000
namespace Sg
open PySem PySem.Spec PyProof.Rows L2
theorem SqP.tk {K : PySem.W.Frag} {H H' : Hp} {a : Addr} {xs : List V} (h : SqP K H a xs) (s : TK H H') : SqP K H' a xs := by
  rcases h with ⟨o, h, hd⟩ | h
  · exact .inl ⟨o, s.f _ _ _ h, hd⟩
  · exact .inr h
def RegsAt (K : PySem.W.Frag) (H : Hp) (r : Addr) (rs : List (Int × Int)) : Prop := ∃ ps : List Addr, SqP K H r (ps.map V.ref) ∧ Paired (fun (p : Addr) (x : Int × Int) => H p = some (.tup [.int x.1, .int x.2])) ps rs
def HoldV (K : PySem.W.Frag) (H : Hp) (v : V) : Option (Int × Str) → Prop
  | none => v = .non
  | some (h, w) => ∃ q, v = .ref q ∧ SqT K H q [.int h, .str w] ∧ PyData.strOk w = true
def FenceAt (K : PySem.W.Frag) (H : Hp) (v : V) (rs : List (Int × Int)) (hd : Option (Int × Str)) : Prop := ∃ a r hv, v = .ref a ∧ SqT K H a [.ref r, hv] ∧ RegsAt K H r rs ∧ HoldV K H hv hd
section
variable {K : PySem.W.Frag} {H H' : Hp}
theorem RegsAt.tk {r : Addr} {rs : List (Int × Int)} (h : RegsAt K H r rs) (s : TK H H') : RegsAt K H' r rs := by
  obtain ⟨ps, a, b⟩ := h
  exact ⟨ps, a.tk s, Paired.imp2 (fun _ _ q => s.t _ _ q) b⟩
theorem HoldV.tk {v : V} {hd : Option (Int × Str)} (h : HoldV K H v hd) (s : TK H H') : HoldV K H' v hd := by
  cases hd with
  | none => exact h
  | some x => obtain ⟨q, a, b, c⟩ := h; exact ⟨q, a, sqT_tk b s, c⟩
theorem FenceAt.tk {v : V} {rs : List (Int × Int)} {hd : Option (Int × Str)} (h : FenceAt K H v rs hd) (s : TK H H') : FenceAt K H' v rs hd := by
  obtain ⟨a, r, hv, e, h1, h2, h3⟩ := h
  exact ⟨a, r, hv, e, sqT_tk h1 s, h2.tk s, h3.tk s⟩
end
structure LB (mg : Str → Option Value) : Prop where
  len : mg "len" = none
  abs : mg "abs" = none
  int : mg "int" = none
  list : mg "list" = none
  tuple : mg "tuple" = none
  sorted : mg "sorted" = none
  range : mg "range" = none
/-- [x for x in t if ..]: what is left, in its order -/
theorem lc_filtT {K : PySem.W.Frag} {σ : L2.St} {H1 : Hp} {D a : Addr} {vs : List Nat} {j : Nat} {xs : List V} {tt : TT} {te : TE} {Qd : Hp → Prop} (f : V → Bool) (hD : H1 D = Option.none) (hx : SqT K H1 a xs) (hw : ∀ x, wipe ((wipe σ vs).set j (some x)) vs = wipe σ vs) (hz : xs.length ≤ sizeLine)
    (he : ∀ (x : V) (H' : Hp) (Q' : Bool → Hp → Prop), x ∈ xs → Same H1 H' → (∀ H'', Same H' H'' → Q' (f x) H'') → tt ((wipe σ vs).set j (some x)) H' Q')
    (hv : ∀ (x : V) (H' : Hp) (Q' : VK), x ∈ xs → Q' x H' → te ((wipe σ vs).set j (some x)) H' Q')
    (hd : ∀ H', Same H1 H' → H' D = some (.lst (xs.filter f)) → Qd H') :
    ∃ W : Nat → Nat → Hp → Prop, (∃ m, W 0 m (upd H1 D (.lst []))) ∧ ∀ i m H, W i m H →
      ((Itt K a).stop i H ∧ Qd H) ∨ ((Itt K a).go i H ∧ ∃ Nx : Hp → Prop, (∀ H', Nx H' → ∃ m', m' < m ∧ W (i + 1) m' H') ∧ ∀ x H', (Itt K a).yld i H x H' → gName j x (wipe σ vs) H' fun σ2 H2 => wipe σ2 vs = wipe σ vs ∧ tt σ2 H2 fun b H3 =>
        if b = true then te σ2 H3 fun y H4 => ∃ acc, H4 D = some (.lst acc) ∧ acc.length < sizeLine ∧ Nx (upd H4 D (.lst (acc ++ [y]))) else Nx H3) := by
  refine lc_tup (K := K) (a := a) (xs := xs) (fun i H' => i ≤ xs.length ∧ Same H1 H' ∧ H' D = some (.lst ((xs.take i).filter f))) ⟨Nat.zero_le _, same_new hD, by rw [List.take_zero]; exact upd_same⟩ (fun i H' _ ⟨_, sm, _⟩ => sqT_tk hx (TK.of sm)) ?_ ?_
  · rintro i x H' hi ⟨_, sm, hDl⟩
    have hil := (List.getElem?_eq_some_iff.mp hi).1
    have hm := List.mem_of_getElem? hi
    refine ⟨hw _, he x H' _ hm sm fun H'' s2 => ?_⟩
    have hD2 := s2 _ _ hDl
    have hlen : ((xs.take i).filter f).length ≤ i := Nat.le_trans (List.length_filter_le _ _) (by rw [List.length_take]; omega)
    cases hf : f x with
    | true =>
      rw [if_pos rfl]
      refine hv x H'' _ hm ⟨_, hD2, by omega, by omega, ?_, ?_⟩
      · intro y o hy'
        rw [upd_ne (ne_of_none hy' hD)]
        exact s2 _ _ (sm _ _ hy')
      · rw [upd_same, List.take_add_one, hi, List.filter_append]
        simp [hf]
    | false =>
      rw [if_neg Bool.false_ne_true]
      refine ⟨by omega, sm.trans s2, ?_⟩
      rw [hD2, List.take_add_one, hi, List.filter_append]
      simp [hf]
  · rintro H' ⟨_, sm, hDl⟩
    exact hd H' sm (by rw [List.take_length] at hDl; exact hDl)
/-! ### pairs in the heap -/
def kOf (H : Hp) : V → Int × Int
  | .ref t => match H t with
    | some (.tup [.int i, .int j]) => (i, j)
    | _ => (0, 0)
  | _ => (0, 0)
def PairV (H : Hp) (x : V) : Prop := ∃ t, x = .ref t ∧ H t = some (.tup [.int (kOf H x).1, .int (kOf H x).2])
theorem kOf_at {H : Hp} {t : Addr} {i j : Int} (h : H t = some (.tup [.int i, .int j])) : kOf H (.ref t) = (i, j) := by
  show (match H t with | some (.tup [.int i, .int j]) => (i, j) | _ => ((0 : Int), (0 : Int))) = (i, j)
  rw [h]
theorem pairV_at {H : Hp} {t : Addr} {i j : Int} (h : H t = some (.tup [.int i, .int j])) : PairV H (.ref t) := ⟨t, rfl, by rw [kOf_at h]; exact h⟩
theorem PairV.tk {H H' : Hp} {x : V} (h : PairV H x) (s : TK H H') : PairV H' x ∧ kOf H' x = kOf H x := by
  obtain ⟨t, rfl, e⟩ := h
  have e' := s.t _ _ e
  exact ⟨pairV_at e', kOf_at e'⟩
theorem regs_xs {K : PySem.W.Frag} {H : Hp} {r : Addr} {rs : List (Int × Int)} (h : RegsAt K H r rs) : ∃ xs, SqT K H r xs ∧ (∀ x ∈ xs, PairV H x) ∧ rs = xs.map (kOf H) := by
  obtain ⟨ps, h1, h2⟩ := h
  refine ⟨_, h1.t, ?_, ?_⟩
  · intro x hx
    obtain ⟨p, hp, rfl⟩ := List.mem_map.mp hx
    clear h1 hx
    induction h2 with
    | nil => cases hp
    | cons r t ih =>
      rcases List.mem_cons.mp hp with rfl | hp
      · exact pairV_at r
      · exact ih hp
  · clear h1
    induction h2 with
    | nil => rfl
    | cons r t ih => rw [List.map_cons, List.map_cons, ← ih, kOf_at r]
theorem xs_pair {H : Hp} : ∀ {xs : List V}, (∀ x ∈ xs, PairV H x) → ∃ ps : List Addr, xs = ps.map V.ref ∧ Paired (fun (p : Addr) (x : Int × Int) => H p = some (.tup [.int x.1, .int x.2])) ps (xs.map (kOf H))
  | [], _ => ⟨[], rfl, .nil⟩
  | x :: xs, h => by
    obtain ⟨ps, e, pr⟩ := xs_pair (xs := xs) fun y hy => h y (List.mem_cons_of_mem _ hy)
    obtain ⟨t, rfl, ht⟩ := h x List.mem_cons_self
    exact ⟨t :: ps, by rw [e]; rfl, .cons ht pr⟩
theorem regs_of {K : PySem.W.Frag} {H : Hp} {r : Addr} {xs : List V} (h1 : SqP K H r xs) (h2 : ∀ x ∈ xs, PairV H x) : RegsAt K H r (xs.map (kOf H)) := by
  obtain ⟨ps, rfl, pr⟩ := xs_pair h2
  exact ⟨ps, h1, pr⟩
theorem regs_len {K : PySem.W.Frag} {H : Hp} {r : Addr} {rs : List (Int × Int)} (h : RegsAt K H r rs) : ∃ ps : List Addr, SqT K H r (ps.map V.ref) ∧ ps.length = rs.length := by
  obtain ⟨ps, h1, h2⟩ := h
  exact ⟨ps, h1.t, h2.length⟩
def spWithHolder (K : PySem.W.Frag) : Sp := fun vs H Q _ => ∃ fv hv rs hd hd', vs = [fv, hv] ∧ FenceAt K H fv rs hd ∧ HoldV K H hv hd' ∧ ∀ a H', Same H H' → FenceAt K H' (.ref a) rs hd' → Q (.ref a) H'
def outR (rs : List (Int × Int)) (h : Int) : List (Int × Int) := rs.filter fun x => !decide (x.1 = h)
def spWithoutKey (K : PySem.W.Frag) : Sp := fun vs H Q _ => ∃ fv h rs hd, vs = [fv, .int h] ∧ FenceAt K H fv rs hd ∧ rs.length ≤ 1000 ∧ ∀ a H', Same H H' → FenceAt K H' (.ref a) (outR rs h) hd → Q (.ref a) H'
def spWithKey (K : PySem.W.Frag) : Sp := fun vs H Q _ => ∃ fv h k rs hd, vs = [fv, .int h, .int k] ∧ FenceAt K H fv rs hd ∧ rs.length ≤ 999 ∧ ∀ a rs' H', Same H H' → rs'.Perm (outR rs h ++ [(h, k)]) → (rs'.map (·.1)).Pairwise (· ≤ ·) → FenceAt K H' (.ref a) rs' hd → Q (.ref a) H'
section
variable {P : Program} {wrl : World} {K : PySem.W.Frag} {mg : Str → Option Value} {base : Heap} {f fO : Addr} {fd fdO : FuncData}
end
end Sg

set_option Elab.async false
set_option linter.all false
set_option maxRecDepth 100000
set_option maxHeartbeats 4000000
namespace Sg
open PySem PySem.Spec PyProof.Rows L2
/-! ### _changed: a table with a name put anew at its end, or without it -/
def chg {κ : Type} [DecidableEq κ] (l : List (κ × V)) (k : κ) (z : V) : List (κ × V) := if z = .non then dropK l k else dropK l k ++ [(k, z)]
def ChIn {K : PySem.W.Frag} {κ : Type} [DecidableEq κ] (T : TKd K κ) (vs : List V) (H : Hp) (Q : VK) : Prop := ∃ (d : Addr) (y z : V) (l : List (κ × V)) (k : κ), vs = [.ref d, y, z] ∧ H d = some (T.ho l) ∧ T.at' H y k ∧ T.ok k ∧ (∀ p ∈ l, T.ok p.1) ∧ (l.map (·.1)).Nodup ∧ l.length ≤ 1000 ∧
  ∀ D H', Same H H' → H D = none → H' D = some (T.ho (chg l k z)) → Q (.ref D) H'
def spChanged (K : PySem.W.Frag) : Sp := fun vs H Q _ => ChIn (kdK K) vs H Q ∨ ChIn (kdT K) vs H Q
theorem chooseF {b : Bool} {A B : Prop} (h : b = false) (x : B) : (if b = true then A else B) := by rw [h]; exact x
theorem chooseT {b : Bool} {A B : Prop} (h : b = true) (x : A) : (if b = true then A else B) := by rw [if_pos h]; exact x
theorem u0_of {k : Nat} {A : Around} (hr : Room k A) : A.units < cLine := by have := hr.un; omega
theorem u64_of {k : Nat} {A : Around} (hr : Room k A) : A.units + 64 < cLine := by have := hr.un; omega
theorem drop_valV {κ : Type} [DecidableEq κ] {l : List (κ × V)} {k : κ} : valV (dropK l k) k = none := valV_none fun p hp => by
  have := (List.mem_filter.mp hp).2
  simpa using this
section
variable {P : Program} {wd : World} {K : PySem.W.Frag} {mg : Str → Option Value} {base : Heap} {f fC : Addr} {fd fdC : FuncData}
end
end Sg

set_option Elab.async false
set_option linter.all false
set_option maxRecDepth 100000
set_option maxHeartbeats 4000000
namespace Sg
open PySem PySem.Spec PyProof.Rows L2
/-! ### states, as data -/
abbrev Cells := List (Int × Int)
structure Spc where
  z : Int
  cs : Cells
  rg : List (Int × Int)
  hd : Option (Int × Str)
structure Mrk where
  s : Int
  c : Int
  an : PyData
  td : PyData
structure Sta where
  o : Int
  sp : List (Int × Spc)
  sn : List ((Int × Int) × Cells)
  mr : List (Int × Mrk)
def delI {α β : Type} [DecidableEq α] (l : List (α × β)) (k : α) : List (α × β) := l.filter fun p => decide (p.1 ≠ k)
def putI {α β : Type} [DecidableEq α] (l : List (α × β)) (k : α) (v : β) : List (α × β) := delI l k ++ [(k, v)]
def setI {α β : Type} [DecidableEq α] (l : List (α × β)) (k : α) : Option β → List (α × β)
  | none => delI l k
  | some v => putI l k v
def holdD : Option (Int × Str) → PyData
  | none => .none
  | some (h, w) => .tuple [.int h, .str w]
def rowD (p : Int × Int) : PyData := .tuple [.int p.1, .int p.2]
def fenceD (rg : List (Int × Int)) (hd : Option (Int × Str)) : PyData := .tuple [.tuple (rg.map rowD), holdD hd]
def markD (m : Mrk) : PyData := .tuple [.int m.s, .int m.c, m.an, m.td]
section
variable {K : PySem.W.Frag} {κ α β : Type} [DecidableEq κ] [DecidableEq α]
def TabAt (T : TKd K κ) (R : Hp → V → β → Prop) (emb : α → κ) (H : Hp) (d : Addr) (l : List (α × β)) : Prop := ∃ kvs, H d = some (T.ho kvs) ∧ Paired (fun (p : κ × V) (q : α × β) => p.1 = emb q.1 ∧ R H p.2 q.2) kvs l ∧ (l.map (·.1)).Nodup
theorem TabAt.same {T : TKd K κ} {R : Hp → V → β → Prop} {emb : α → κ} {H H' : Hp} {d : Addr} {l : List (α × β)} (hR : ∀ x v, R H x v → R H' x v) (s : Same H H') (h : TabAt T R emb H d l) : TabAt T R emb H' d l := by
  obtain ⟨kvs, a, b, c⟩ := h
  exact ⟨kvs, s _ _ a, Paired.imp2 (fun p q z => ⟨z.1, hR _ _ z.2⟩) b, c⟩
theorem pr_keys {R : V → β → Prop} {emb : α → κ} : ∀ {kvs : List (κ × V)} {l : List (α × β)}, Paired (fun (p : κ × V) (q : α × β) => p.1 = emb q.1 ∧ R p.2 q.2) kvs l → kvs.map (·.1) = l.map fun q => emb q.1
  | _, _, .nil => rfl
  | _, _, .cons h t => by rw [List.map_cons, List.map_cons, h.1, pr_keys t]
theorem pr_nodup {R : V → β → Prop} {emb : α → κ} (he : ∀ a b, emb a = emb b → a = b) {kvs : List (κ × V)} {l : List (α × β)} (h : Paired (fun (p : κ × V) (q : α × β) => p.1 = emb q.1 ∧ R p.2 q.2) kvs l) (nd : (l.map (·.1)).Nodup) : (kvs.map (·.1)).Nodup := by
  rw [pr_keys h, show (l.map fun q => emb q.1) = (l.map (·.1)).map emb from by rw [List.map_map]; rfl]
  exact List.Pairwise.map emb (fun a b n e => n (he _ _ e)) nd
theorem pr_drop {R : V → β → Prop} {emb : α → κ} (he : ∀ a b, emb a = emb b → a = b) {k : α} : ∀ {kvs : List (κ × V)} {l : List (α × β)}, Paired (fun (p : κ × V) (q : α × β) => p.1 = emb q.1 ∧ R p.2 q.2) kvs l → Paired (fun (p : κ × V) (q : α × β) => p.1 = emb q.1 ∧ R p.2 q.2) (dropK kvs (emb k)) (delI l k)
  | _, _, .nil => .nil
  | p :: kvs, q :: l, .cons h t => by
    have r := pr_drop he (k := k) t
    unfold dropK delI at r ⊢
    by_cases c : q.1 = k
    · rw [List.filter_cons_of_neg (by simp [h.1, c]), List.filter_cons_of_neg (by simp [c])]; exact r
    · rw [List.filter_cons_of_pos (by simp only [decide_eq_true_eq, ne_eq]; exact fun e => c (he _ _ (h.1.symm.trans e))), List.filter_cons_of_pos (by simp [c])]; exact .cons h r
theorem pr_snoc {γ δ : Type} {R : γ → δ → Prop} {x : γ} {y : δ} (h : R x y) : ∀ {a : List γ} {b : List δ}, Paired R a b → Paired R (a ++ [x]) (b ++ [y])
  | _, _, .nil => .cons h .nil
  | _, _, .cons r t => .cons r (pr_snoc h t)
theorem del_nodup {l : List (α × β)} {k : α} (nd : (l.map (·.1)).Nodup) : ((delI l k).map (·.1)).Nodup := List.Nodup.sublist (List.Sublist.map _ List.filter_sublist) nd
theorem put_nodup {l : List (α × β)} {k : α} {v : β} (nd : (l.map (·.1)).Nodup) : ((putI l k v).map (·.1)).Nodup := by
  unfold putI
  rw [List.map_append, List.nodup_append]
  refine ⟨del_nodup nd, by simp, fun a ha b hb e => ?_⟩
  obtain ⟨p, hp, rfl⟩ := List.mem_map.mp ha
  have := (List.mem_filter.mp hp).2
  simp at hb this
  exact this (e.trans hb)
theorem set_nodup {l : List (α × β)} {k : α} {v : Option β} (nd : (l.map (·.1)).Nodup) : ((setI l k v).map (·.1)).Nodup := by
  cases v with
  | none => exact del_nodup nd
  | some v => exact put_nodup nd
theorem del_len {l : List (α × β)} {k : α} : (delI l k).length ≤ l.length := List.length_filter_le _ _
theorem set_len {l : List (α × β)} {k : α} {v : Option β} : (setI l k v).length ≤ l.length + 1 := by
  have := del_len (l := l) (k := k)
  cases v with
  | none => exact Nat.le_succ_of_le this
  | some v => show (delI l k ++ [(k, v)]).length ≤ _; rw [List.length_append]; simp; exact this
/-- what is put: none, or the thing -/
def OptAt (R : Hp → V → β → Prop) (H : Hp) (z : V) : Option β → Prop
  | none => z = .non
  | some v => z ≠ .non ∧ R H z v
theorem pr_set {R : V → β → Prop} {emb : α → κ} (he : ∀ a b, emb a = emb b → a = b) {k : α} {z : V} {v : Option β} (hz : match v with | none => z = .non | some v => z ≠ .non ∧ R z v) {kvs : List (κ × V)} {l : List (α × β)} (h : Paired (fun (p : κ × V) (q : α × β) => p.1 = emb q.1 ∧ R p.2 q.2) kvs l) :
    Paired (fun (p : κ × V) (q : α × β) => p.1 = emb q.1 ∧ R p.2 q.2) (chg kvs (emb k) z) (setI l k v) := by
  unfold chg
  cases v with
  | none => rw [if_pos hz]; exact pr_drop he h
  | some v => rw [if_neg hz.1]; exact pr_snoc ⟨rfl, hz.2⟩ (pr_drop he h)
end
def eP (p : Int × Int) : List Key := [.inl p.1, .inl p.2]
theorem eP_inj : ∀ a b, eP a = eP b → a = b := fun a b e => by
  unfold eP at e
  simp only [List.cons.injEq, Sum.inl.injEq, and_true] at e
  exact Prod.ext e.1 e.2
abbrev eI : Int → Key := Sum.inl
theorem eI_inj : ∀ a b, eI a = eI b → a = b := fun a b e => Sum.inl.inj e
section
variable (K : PySem.W.Frag)
def CellAt (H : Hp) (c : Addr) (cs : Cells) : Prop := TabAt (kdK K) (fun _ x v => x = .int v) eI H c cs
def SpcAt (H : Hp) (v : V) (s : Spc) : Prop := ∃ a c f, v = .ref a ∧ SqT K H a [.int s.z, .ref c, f] ∧ CellAt K H c s.cs ∧ FenceAt K H f s.rg s.hd
def SnpAt (H : Hp) (v : V) (cs : Cells) : Prop := ∃ c, v = .ref c ∧ CellAt K H c cs
def MrkAt (H : Hp) (v : V) (m : Mrk) : Prop := Dp K H v (markD m)
def stK (o : Int) (b1 b2 b3 : Addr) : List (Key × V) := [(.inr "order", .int o), (.inr "spaces", .ref b1), (.inr "snaps", .ref b2), (.inr "marks", .ref b3)]
def StAt (H : Hp) (a : Addr) (st : Sta) : Prop := ∃ b1 b2 b3, H a = some (.dK (stK st.o b1 b2 b3)) ∧ TabAt (kdK K) (SpcAt K) eI H b1 st.sp ∧ TabAt (kdT K) (SnpAt K) eP H b2 st.sn ∧ TabAt (kdK K) (MrkAt K) eI H b3 st.mr
end
section
variable {K : PySem.W.Frag} {H H' : Hp}
theorem CellAt.same {c : Addr} {cs : Cells} (h : CellAt K H c cs) (s : Same H H') : CellAt K H' c cs := TabAt.same (fun _ _ z => z) s h
theorem SpcAt.same {v : V} {p : Spc} (h : SpcAt K H v p) (s : Same H H') : SpcAt K H' v p := by
  obtain ⟨a, c, f, e, h1, h2, h3⟩ := h
  exact ⟨a, c, f, e, SqT_same s h1, h2.same s, h3.tk (TK.of s)⟩
theorem SnpAt.same {v : V} {p : Cells} (h : SnpAt K H v p) (s : Same H H') : SnpAt K H' v p := by
  obtain ⟨c, e, h1⟩ := h
  exact ⟨c, e, h1.same s⟩
theorem MrkAt.same {v : V} {p : Mrk} (h : MrkAt K H v p) (s : Same H H') : MrkAt K H' v p := dp_same s _ _ h
theorem StAt.same {a : Addr} {st : Sta} (h : StAt K H a st) (s : Same H H') : StAt K H' a st := by
  obtain ⟨b1, b2, b3, e, h1, h2, h3⟩ := h
  exact ⟨b1, b2, b3, s _ _ e, TabAt.same (fun _ _ z => z.same s) s h1, TabAt.same (fun _ _ z => z.same s) s h2, TabAt.same (fun _ _ z => z.same s) s h3⟩
theorem SpcAt.ref {v : V} {p : Spc} (h : SpcAt K H v p) : v ≠ .non := by
  obtain ⟨a, c, f, e, _⟩ := h
  rw [e]; exact fun z => nomatch z
theorem SnpAt.ref {v : V} {p : Cells} (h : SnpAt K H v p) : v ≠ .non := by
  obtain ⟨a, e, _⟩ := h
  rw [e]; exact fun z => nomatch z
theorem MrkAt.ref {v : V} {p : Mrk} (h : MrkAt K H v p) : v ≠ .non := by
  unfold MrkAt markD at h
  cases h
  exact fun z => nomatch z
end
end Sg

set_option Elab.async false
set_option linter.all false
set_option maxRecDepth 100000
set_option maxHeartbeats 4000000
namespace Sg
open PySem PySem.Spec PyProof.Rows L2
/-! ### _with_entry -/
theorem merge_st {o : Int} {b1 b2 b3 : Addr} : mergeK [] (stK o b1 b2 b3) = stK o b1 b2 b3 := rfl
theorem put_o {o n : Int} {b1 b2 b3 : Addr} : putK (stK o b1 b2 b3) (.inr "order") (.int n) = stK n b1 b2 b3 := rfl
theorem put_sp {o : Int} {b1 b2 b3 n : Addr} : putK (stK o b1 b2 b3) (.inr "spaces") (.ref n) = stK o n b2 b3 := rfl
theorem put_sn {o : Int} {b1 b2 b3 n : Addr} : putK (stK o b1 b2 b3) (.inr "snaps") (.ref n) = stK o b1 n b3 := rfl
theorem put_mr {o : Int} {b1 b2 b3 n : Addr} : putK (stK o b1 b2 b3) (.inr "marks") (.ref n) = stK o b1 b2 n := rfl
theorem val_sp {o : Int} {b1 b2 b3 : Addr} : valV (stK o b1 b2 b3) (.inr "spaces") = some (.ref b1) := rfl
theorem val_sn {o : Int} {b1 b2 b3 : Addr} : valV (stK o b1 b2 b3) (.inr "snaps") = some (.ref b2) := rfl
theorem val_mr {o : Int} {b1 b2 b3 : Addr} : valV (stK o b1 b2 b3) (.inr "marks") = some (.ref b3) := rfl
inductive Ed
  | sp (n : Int) (v : Option Spc) | sn (k : Int × Int) (v : Option Cells) | mr (n : Int) (v : Mrk)
def edS : Ed → Sta → Sta
  | .sp n v, st => { st with sp := setI st.sp n v }
  | .sn k v, st => { st with sn := setI st.sn k v }
  | .mr n v, st => { st with mr := putI st.mr n v }
def edPart : Ed → Str
  | .sp _ _ => "spaces" | .sn _ _ => "snaps" | .mr _ _ => "marks"
def PairAt (H : Hp) (y : V) (k : Int × Int) : Prop := ∃ b, y = .ref b ∧ H b = some (.tup [.int k.1, .int k.2])
def EdAt (K : PySem.W.Frag) (H : Hp) (y z : V) : Ed → Prop
  | .sp n v => y = .int n ∧ OptAt (SpcAt K) H z v
  | .sn k v => PairAt H y k ∧ OptAt (SnpAt K) H z v
  | .mr n v => y = .int n ∧ MrkAt K H z v
structure SmallS (n : Nat) (st : Sta) : Prop where
  sp : st.sp.length ≤ n
  sn : st.sn.length ≤ n
  mr : st.mr.length ≤ n
  cs : ∀ p ∈ st.sp, p.2.cs.length ≤ n
  cn : ∀ p ∈ st.sn, p.2.length ≤ n
/-- what is new between two heaps stands in a third -/
def New (H H' H'' : Hp) : Prop := ∀ b u, H' b = some u → H b = none → H'' b = some u
def spWithEntry (K : PySem.W.Frag) : Sp := fun vs H Q _ => ∃ (H0 : Hp) (a : Addr) (st : Sta) (ed : Ed) (y z : V), vs = [.ref a, .str (edPart ed), y, z] ∧ Same H0 H ∧ StAt K H0 a st ∧ SmallS 1000 st ∧ EdAt K H0 y z ed ∧
  ∀ D H', Same H H' → H D = none → (∀ H'', Same H0 H'' → New H H' H'' → StAt K H'' D (edS ed st)) → Q (.ref D) H'
section
variable {K : PySem.W.Frag} {κ α β : Type} [DecidableEq κ] [DecidableEq α]
/-- a table's call of _changed, by its data -/
theorem ch_tab (T : TKd K κ) {R : Hp → V → β → Prop} {emb : α → κ} (he : ∀ a b, emb a = emb b → a = b) (hok : ∀ a, T.ok (emb a)) (hR : ∀ {H H' : Hp} {x v}, Same H H' → R H x v → R H' x v) {H : Hp} {d : Addr} {l : List (α × β)} {k : α} {y z : V} {v : Option β} {Q : VK}
    (h : TabAt T R emb H d l) (hl : l.length ≤ 1000) (hk : T.at' H y (emb k)) (hz : OptAt R H z v) (q : ∀ D H', Same H H' → H D = none → TabAt T R emb H' D (setI l k v) → Q (.ref D) H') : ChIn T [.ref d, y, z] H Q := by
  obtain ⟨kvs, hd, pr, nd⟩ := h
  refine ⟨d, y, z, kvs, emb k, rfl, hd, hk, hok k, fun p hp => ?_, pr_nodup he (R := R H) pr nd, by rw [Paired.length pr]; exact hl, fun D H' s hD hDn => q D H' s hD ⟨_, hDn, ?_, set_nodup nd⟩⟩
  · obtain ⟨j, hj⟩ := List.mem_iff_getElem?.mp hp
    obtain ⟨q, _, hq⟩ := paired_at pr hj
    rw [hq.1]; exact hok _
  · refine pr_set he (R := R H') ?_ (Paired.imp2 (fun p q z => ⟨z.1, hR s z.2⟩) pr)
    cases v with
    | none => exact hz
    | some v => exact ⟨hz.1, hR s hz.2⟩
theorem TabAt.off {T : TKd K κ} {R : Hp → V → β → Prop} {emb : α → κ} {H H' : Hp} {d : Addr} {l : List (α × β)} (h : TabAt T R emb H d l) (e : ∀ o, H d = some o → H' d = some o) (hR : ∀ x v, R H x v → R H' x v) : TabAt T R emb H' d l := by
  obtain ⟨kvs, a, b, c⟩ := h
  exact ⟨kvs, e _ a, Paired.imp2 (fun p q z => ⟨z.1, hR _ _ z.2⟩) b, c⟩
end
theorem TabAt.frz {K : PySem.W.Frag} {κ α β : Type} [DecidableEq κ] [DecidableEq α] {T : TKd K κ} {R : Hp → V → β → Prop} {emb : α → κ} {H H' : Hp} {d : Addr} {l : List (α × β)} (h : TabAt T R emb H d l) (s : Same H H') : TabAt T (fun _ => R H) emb H' d l := by
  obtain ⟨kvs, a, b, c⟩ := h
  exact ⟨kvs, s _ _ a, b, c⟩
theorem TabAt.thaw {K : PySem.W.Frag} {κ α β : Type} [DecidableEq κ] [DecidableEq α] {T : TKd K κ} {R : Hp → V → β → Prop} {emb : α → κ} {H0 H H' : Hp} {d : Addr} {l : List (α × β)} (h : TabAt T (fun _ => R H0) emb H d l) (e : ∀ u, H d = some u → H' d = some u) (hR : ∀ x v, R H0 x v → R H' x v) : TabAt T R emb H' d l := by
  obtain ⟨kvs, a, b, c⟩ := h
  exact ⟨kvs, e _ a, Paired.imp2 (fun p q z => ⟨z.1, hR _ _ z.2⟩) b, c⟩
theorem okI {K : PySem.W.Frag} : ∀ a, (kdK K).ok (eI a) := fun a x hx s e => by
  rw [List.mem_singleton.mp hx] at e; cases e
theorem okP {K : PySem.W.Frag} : ∀ a, (kdT K).ok (eP a) := fun a x hx s e => by
  unfold eP at hx
  simp at hx
  rcases hx with rfl | rfl <;> cases e
end Sg

set_option Elab.async false
set_option linter.all false
set_option maxRecDepth 100000
set_option maxHeartbeats 4000000
namespace Sg
open PySem PySem.Spec PyProof.Rows L2
section
variable {P : Program} {wd : World} {K : PySem.W.Frag} {mg : Str → Option Value} {base : Heap} {f fC : Addr} {fd fdC : FuncData}
/-- the display {**t1, tk: tv} over a state's dict -/
theorem star_gen {σ : L2.St} {H : Hp} {Q : VK} {t1 tk tv : TE} {part : Str} {Pa : Int → Addr → Addr → Addr → Hp → Hp → Prop} {Tz : V → Hp → Hp → Prop}
    (h1 : ∀ D, H D = none → ∀ R : VK, (∀ a o b1 b2 b3 H1, Same (upd H D (.dK [])) H1 → H1 a = some (.dK (stK o b1 b2 b3)) → Pa o b1 b2 b3 (upd H D (.dK [])) H1 → R (.ref a) H1) → t1 σ (upd H D (.dK [])) R)
    (hk : ∀ (G : Hp) (R : VK), R (.str part) G → tk σ G R)
    (hv : ∀ o b1 b2 b3 G H1 H2 (R : VK), Pa o b1 b2 b3 G H1 → Same H G → (∀ b u, H1 b = some u → G b = none → H2 b = some u) → Same H H2 → (∀ z H3, Same H2 H3 → Tz z H2 H3 → R z H3) → tv σ H2 R)
    (q : ∀ D o b1 b2 b3 z G H1 H2 H3 H', H D = none → Pa o b1 b2 b3 G H1 → Same H G → Same H H2 → (∀ b u, H1 b = some u → G b = none → H' b = some u) → Tz z H2 H3 → (∀ b u, H3 b = some u → H2 b = none → H' b = some u) → Same H H' →
      H' D = some (.dK (putK (stK o b1 b2 b3) (.inr part) z)) → Q (.ref D) H') : tDStar t1 tk tv σ H Q := by
  intro D hD
  refine h1 D hD _ fun a o b1 b2 b3 H1 s1 ha pa => ?_
  have sG := same_new (o := .dK []) hD
  have hG : (upd H D (.dK [])) D = some (.dK []) := upd_same
  generalize upd H D (.dK []) = G at s1 pa sG hG
  have hD1 := s1 _ _ hG
  have nDa : D ≠ a := fun e => by rw [e, ha] at hD1; cases hD1
  refine ⟨a, stK o b1 b2 b3, rfl, .inl ha, nDa, hD1, small1000 (show 4 ≤ 1000 by decide), fun S hS => ?_⟩
  rw [merge_st] at hS ⊢
  have nDS : D ≠ S := fun e => by rw [← e, upd_same] at hS; cases hS
  have s2 := same_new (o := .dK []) hS
  have hS1 : H1 S = none := by rw [upd_ne (Ne.symm nDS)] at hS; exact hS
  have new1 : ∀ b u, H1 b = some u → G b = none → (upd (upd H1 D (.dK (stK o b1 b2 b3))) S (.dK [])) b = some u := fun b u e n => by
    have : b ≠ D := fun w => by rw [w, hG] at n; cases n
    exact s2 _ _ (by rw [upd_ne this]; exact e)
  have old1 : Same H (upd (upd H1 D (.dK (stK o b1 b2 b3))) S (.dK [])) := fun b u e => by
    have : b ≠ D := fun w => by rw [w, hD] at e; cases e
    exact s2 _ _ (by rw [upd_ne this]; exact s1 _ _ (sG _ _ e))
  have hD2 : (upd (upd H1 D (.dK (stK o b1 b2 b3))) S (.dK [])) D = some (.dK (stK o b1 b2 b3)) := s2 _ _ upd_same
  have hS2 : (upd (upd H1 D (.dK (stK o b1 b2 b3))) S (.dK [])) S = some (.dK []) := upd_same
  generalize upd (upd H1 D (.dK (stK o b1 b2 b3))) S (.dK []) = H2 at new1 old1 hD2 hS2
  refine hk _ _ (hv o b1 b2 b3 G H1 H2 _ pa sG new1 old1 fun z H3 s3 tz => ⟨.inr part, rfl, s3 _ _ hD2, s3 _ _ hS2, nDS, ?_⟩)
  refine q D o b1 b2 b3 z G H1 H2 H3 _ hD pa sG old1 (fun b u e n => ?_) tz (fun b u e n => ?_) (fun b u e => ?_) upd_same
  · have n1 : b ≠ D := fun w => by rw [w, hG] at n; cases n
    have n2 : b ≠ S := fun w => by rw [w, hS1] at e; cases e
    rw [upd_ne n1, upd_ne n2]; exact s3 _ _ (new1 _ _ e n)
  · have n1 : b ≠ D := fun w => by rw [w, hD2] at n; cases n
    have n2 : b ≠ S := fun w => by rw [w, hS2] at n; cases n
    rw [upd_ne n1, upd_ne n2]; exact e
  · have n1 : b ≠ D := fun w => by rw [w, hD] at e; cases e
    have n2 : b ≠ S := fun w => by rw [w] at e; rw [s1 _ _ (sG _ _ e)] at hS1; cases hS1
    rw [upd_ne n1, upd_ne n2]; exact s3 _ _ (old1 _ _ e)
/-- the simplest first part: a name that holds a state -/
theorem star_var {σ : L2.St} {H : Hp} {i : Nat} {a b1 b2 b3 : Addr} {o : Int} (h0 : σ[i]? = some (some (.ref a))) (ha : H a = some (.dK (stK o b1 b2 b3))) (D : Addr) (hD : H D = none) (R : VK)
    (k : ∀ a' o' c1 c2 c3 H1, Same (upd H D (.dK [])) H1 → H1 a' = some (.dK (stK o' c1 c2 c3)) → (o' = o ∧ c1 = b1 ∧ c2 = b2 ∧ c3 = b3) → R (.ref a') H1) : tVar i σ (upd H D (.dK [])) R :=
  ⟨_, h0, k a o b1 b2 b3 _ (Same.refl _) (same_new hD _ _ ha) ⟨rfl, rfl, rfl, rfl⟩⟩
end
end Sg

set_option Elab.async false
set_option linter.all false
set_option maxRecDepth 100000
set_option maxHeartbeats 4000000
namespace Sg
open PySem PySem.Spec PyProof.Rows L2
/-! ### _without_space -/
def goneS (n : Int) (st : Sta) : Sta := { st with sp := delI st.sp n, sn := st.sn.filter fun p => !decide (p.1.1 = n) }
def notOf (n : Int) : List Key → Bool
  | .inl a :: _ => !decide (a = n)
  | _ => true
theorem pr_filt {κ α β : Type} {R : V → β → Prop} {emb : α → κ} {f : κ → Bool} {g : α → Bool} (h : ∀ a, f (emb a) = g a) : ∀ {kvs : List (κ × V)} {l : List (α × β)}, Paired (fun (p : κ × V) (q : α × β) => p.1 = emb q.1 ∧ R p.2 q.2) kvs l → Paired (fun (p : κ × V) (q : α × β) => p.1 = emb q.1 ∧ R p.2 q.2) (kvs.filter fun p => f p.1) (l.filter fun q => g q.1)
  | _, _, .nil => .nil
  | p :: kvs, q :: l, .cons r t => by
    have ih := pr_filt (f := f) h t
    have e : f p.1 = g q.1 := by rw [r.1, h]
    by_cases c : g q.1 = true
    · have c' : f p.1 = true := by rw [e]; exact c
      simp only [List.filter_cons, c, c', if_true]; exact .cons r ih
    · have c' : ¬ f p.1 = true := by rw [e]; exact c
      simp only [List.filter_cons, c, c', if_false]; exact ih
theorem filt_nodup {α β : Type} {l : List (α × β)} {f : α × β → Bool} (nd : (l.map (·.1)).Nodup) : ((l.filter f).map (·.1)).Nodup := List.Nodup.sublist (List.Sublist.map _ List.filter_sublist) nd
def spWithoutSpace (K : PySem.W.Frag) : Sp := fun vs H Q _ => ∃ (H0 : Hp) (a : Addr) (st : Sta) (n : Int), vs = [.ref a, .int n] ∧ Same H0 H ∧ StAt K H0 a st ∧ SmallS 1000 st ∧
  ∀ D H', Same H H' → H D = none → (∀ H'', Same H0 H'' → New H H' H'' → StAt K H'' D (goneS n st)) → Q (.ref D) H'
theorem ltH {H G : Hp} {b : Addr} (s : Same H G) (h : G b = none) : H b = none := by
  cases e : H b with
  | none => rfl
  | some u => rw [s _ _ e] at h; cases h
section
variable {P : Program} {wd : World} {K : PySem.W.Frag} {mg : Str → Option Value} {base : Heap} {f fW : Addr} {fd fdW : FuncData}
end
end Sg

set_option Elab.async false
set_option linter.all false
set_option maxRecDepth 100000
set_option maxHeartbeats 4000000
namespace Sg
open PySem PySem.Spec PyProof.Rows L2
/-! ### what effects do to a state -/
def lookI {α β : Type} [DecidableEq α] (l : List (α × β)) (k : α) : Option β := (l.find? fun p => decide (p.1 = k)).map (·.2)
def insR (rg : List (Int × Int)) (h k : Int) : List (Int × Int) := (outR rg h ++ [(h, k)]).mergeSort fun a b => decide (a.1 ≤ b.1)
inductive Eff
  | host (h s c : Int) (an : PyData) | told (h : Int) (d : PyData) | space (n z : Int)
  | gone (n o : Int) | snap (n m : Int) (b : Option Int) | place (n p : Int) (v : Option Int) | key (n h : Int) (k : Option Int) | hold (n : Int) (hd : Option (Int × Str))
def oD : Option Int → PyData
  | none => .none
  | some i => .int i
def toEf : Eff → Ef
  | .host h s c an => ([.inr "host", .inl h], .tuple [.int s, .int c, an])
  | .told h d => ([.inr "told", .inl h], d)
  | .space n z => ([.inr "space", .inl n], .int z)
  | .gone n o => ([.inr "gone", .inl n], .int o)
  | .snap n m b => ([.inr "snap", .inl n, .inl m], oD b)
  | .place n p v => ([.inr "place", .inl n, .inl p], oD v)
  | .key n h k => ([.inr "key", .inl n, .inl h], oD k)
  | .hold n hd => ([.inr "hold", .inl n], holdD hd)
def effsB (o h : Int) : Bd → List Eff
  | .mark d => [.told h d]
  | .make n z => [.space n z]
  | .remove n => [.gone n o]
  | .write n p v => [.place n p (some v)]
  | .trim n p => [.place n p none]
  | .snap n => [.snap n o (some o)]
  | .drop n s => [.snap n s none]
  | .register n => [.key n h (some o)]
  | .leave n false => [.key n h none]
  | .leave n true => [.key n h none, .hold n none]
  | .reserve n w => [.hold n (some (h, w))]
  | .release n => [.hold n none]
  | .preempt n v none => [.key n v none]
  | .preempt n v (some w) => [.key n v none, .hold n (some (h, w))]
def effsR (r : Rc) : List Eff := .host r.h r.s r.c (answD (kindS r.b) r.o) :: effsB r.o r.h r.b
theorem effsR_ef (r : Rc) : effR r = (effsR r).map toEf := by
  unfold effR effsR effH
  rw [List.map_cons]
  congr 1
  cases r.b with
  | leave n b => cases b <;> rfl
  | preempt n v w => cases w <;> rfl
  | _ => rfl
def spaceOf : Eff → Option Int
  | .gone n _ => some n | .snap n _ _ => some n | .place n _ _ => some n | .key n _ _ => some n | .hold n _ => some n
  | _ => none
/-- the spaces' effects, the space being s -/
def within (s : Spc) : Eff → Sta → Sta
  | .gone n _, st => goneS n st
  | .snap n m b, st => { st with sn := setI st.sn (n, m) (b.map fun _ => s.cs) }
  | .place n p v, st => { st with sp := putI st.sp n { s with cs := setI s.cs p v } }
  | .key n h none, st => { st with sp := putI st.sp n { s with rg := outR s.rg h } }
  | .key n h (some k), st => { st with sp := putI st.sp n { s with rg := insR s.rg h k } }
  | .hold n hd, st => { st with sp := putI st.sp n { s with hd := hd } }
  | _, st => st
def toldOf (st : Sta) (h : Int) : PyData := match lookI st.mr h with
  | none => .none
  | some m => m.td
def afterE : Eff → Sta → Sta
  | .host h s c an, st => { st with mr := putI st.mr h ⟨s, c, an, toldOf st h⟩ }
  | .told h d, st => match lookI st.mr h with
    | none => st
    | some m => { st with mr := putI st.mr h { m with td := d } }
  | .space n z, st => { st with sp := putI st.sp n ⟨z, [], [], none⟩ }
  | e, st => match spaceOf e with
    | none => st
    | some n => match lookI st.sp n with
      | none => st
      | some s => within s e st
def afterR (st : Sta) (r : Rc) : Sta := (effsR r).foldl (fun s e => afterE e s) { st with o := r.o }
/-- what stands in every state: sizes, and each fence has a host once -/
structure StG (n : Nat) (st : Sta) : Prop where
  sm : SmallS n st
  rg : ∀ p ∈ st.sp, (p.2.rg.map (·.1)).Nodup ∧ p.2.rg.length ≤ n
theorem out_nodup {rg : List (Int × Int)} {h k : Int} (nd : (rg.map (·.1)).Nodup) : ((outR rg h ++ [(h, k)]).map (·.1)).Nodup := by
  rw [List.map_append, List.nodup_append]
  refine ⟨filt_nodup nd, by simp, fun a ha b hb e => ?_⟩
  obtain ⟨p, hp, rfl⟩ := List.mem_map.mp ha
  have := (List.mem_filter.mp hp).2
  simp at hb this
  exact this (e.trans hb)
theorem fst_inj {L : List (Int × Int)} (nd : (L.map (·.1)).Nodup) {x y : Int × Int} (hx : x ∈ L) (hy : y ∈ L) (e : x.1 = y.1) : x = y := by
  obtain ⟨i, hi⟩ := List.mem_iff_getElem?.mp hx
  obtain ⟨j, hj⟩ := List.mem_iff_getElem?.mp hy
  have h1 : (L.map (·.1))[i]? = some x.1 := by rw [List.getElem?_map, hi]; rfl
  have h2 : (L.map (·.1))[j]? = some x.1 := by rw [List.getElem?_map, hj, e]; rfl
  have li := (List.getElem?_eq_some_iff.mp h1).1
  have lj := (List.getElem?_eq_some_iff.mp h2).1
  have ee := (List.getElem?_eq_some_iff.mp h1).2.trans (List.getElem?_eq_some_iff.mp h2).2.symm
  have : i = j := by
    rcases Nat.lt_trichotomy i j with c | c | c
    · exact absurd ee ((List.pairwise_iff_getElem.mp nd) i j li lj c)
    · exact c
    · exact absurd ee.symm ((List.pairwise_iff_getElem.mp nd) j i lj li c)
  subst this
  rw [hi] at hj; exact Option.some.inj hj
theorem ins_perm {rg : List (Int × Int)} {h k : Int} : (insR rg h k).Perm (outR rg h ++ [(h, k)]) := List.mergeSort_perm _ _
theorem ins_eq {rg rs : List (Int × Int)} {h k : Int} (nd : (rg.map (·.1)).Nodup) (p : rs.Perm (outR rg h ++ [(h, k)])) (s : (rs.map (·.1)).Pairwise (· ≤ ·)) : rs = insR rg h k := by
  have nL := out_nodup (h := h) (k := k) nd
  refine List.Perm.eq_of_pairwise (le := fun a b : Int × Int => a.1 ≤ b.1) (fun x y hx hy h1 h2 => fst_inj nL (p.mem_iff.mp hx) (ins_perm.mem_iff.mp hy) (by omega)) (List.pairwise_map.mp s) ?_ (p.trans ins_perm.symm)
  have := List.pairwise_mergeSort (le := fun a b : Int × Int => decide (a.1 ≤ b.1)) (by intro a b c h1 h2; simp at *; omega) (by intro a b; simp; omega) (outR rg h ++ [(h, k)])
  exact this.imp fun h => of_decide_eq_true h
theorem ins_nodup {rg : List (Int × Int)} {h k : Int} (nd : (rg.map (·.1)).Nodup) : ((insR rg h k).map (·.1)).Nodup := ((ins_perm.map _).nodup_iff).mpr (out_nodup nd)
theorem out_len {rg : List (Int × Int)} {h : Int} : (outR rg h).length ≤ rg.length := List.length_filter_le _ _
theorem ins_len {rg : List (Int × Int)} {h k : Int} : (insR rg h k).length ≤ rg.length + 1 := by
  rw [ins_perm.length_eq, List.length_append]; have := out_len (rg := rg) (h := h); simp; omega
end Sg

set_option Elab.async false
set_option linter.all false
set_option maxRecDepth 100000
set_option maxHeartbeats 4000000
namespace Sg
open PySem PySem.Spec PyProof.Rows L2
/-! ### _after_effect_within -/
theorem lookI_nil {α β : Type} [DecidableEq α] {k : α} : lookI ([] : List (α × β)) k = none := rfl
theorem pr_look {κ α β : Type} [DecidableEq κ] [DecidableEq α] {R : V → β → Prop} {emb : α → κ} (he : ∀ a b, emb a = emb b → a = b) {k : α} : ∀ {kvs : List (κ × V)} {l : List (α × β)}, Paired (fun (p : κ × V) (q : α × β) => p.1 = emb q.1 ∧ R p.2 q.2) kvs l →
    (lookI l k = none ∧ valV kvs (emb k) = none) ∨ ∃ v z, lookI l k = some v ∧ valV kvs (emb k) = some z ∧ R z v
  | _, _, .nil => .inl ⟨rfl, rfl⟩
  | p :: kvs, q :: l, .cons r t => by
    by_cases c : q.1 = k
    · refine .inr ⟨q.2, p.2, ?_, valV_pos (r.1.trans (by rw [c])), r.2⟩
      unfold lookI
      rw [List.find?_cons_of_pos (by simp [c])]; rfl
    · have e1 : lookI (q :: l) k = lookI l k := by
        unfold lookI
        rw [List.find?_cons_of_neg (by simp [c])]
      have e2 : valV (p :: kvs) (emb k) = valV kvs (emb k) := valV_neg (fun e => c (he _ _ (r.1.symm.trans e)))
      rw [e1, e2]
      exact pr_look he t
theorem look_mem {α β : Type} [DecidableEq α] {l : List (α × β)} {k : α} {v : β} (h : lookI l k = some v) : (k, v) ∈ l := by
  unfold lookI at h
  cases e : l.find? fun p => decide (p.1 = k) with
  | none => rw [e] at h; cases h
  | some p =>
    rw [e] at h
    have h1 := List.mem_of_find?_eq_some e
    have h2 := List.find?_some e
    have : p = (k, v) := Prod.ext (of_decide_eq_true h2) (Option.some.inj h)
    rw [← this]; exact h1
/-- a topic in the heap, as effects have it -/
def TpAt (H : Hp) (t : Addr) (k : List Key) : Prop := H t = some (.tup (k.map kV))
def EfAt (K : PySem.W.Frag) (H : Hp) (t : Addr) (v : V) (e : Eff) : Prop := TpAt H t (toEf e).1 ∧ Dp K H v (toEf e).2
def hdOk (hd : Option (Int × Str)) : Prop := ∀ h w, hd = some (h, w) → PyData.strOk w = true
def efOk : Eff → Prop
  | .hold _ hd => hdOk hd
  | _ => True
def spWithin (K : PySem.W.Frag) : Sp := fun vs H Q _ => ∃ (a t : Addr) (v : V) (st : Sta) (e : Eff) (n : Int) (s : Spc), vs = [.ref a, .ref t, v] ∧ StAt K H a st ∧ StG 900 st ∧ EfAt K H t v e ∧ efOk e ∧ spaceOf e = some n ∧ lookI st.sp n = some s ∧
  ∀ D H', Same H H' → StAt K H' D (within s e st) → Q (.ref D) H'
theorem SmallS.mono {n m : Nat} {st : Sta} (h : SmallS n st) (l : n ≤ m) : SmallS m st := ⟨Nat.le_trans h.sp l, Nat.le_trans h.sn l, Nat.le_trans h.mr l, fun p hp => Nat.le_trans (h.cs p hp) l, fun p hp => Nat.le_trans (h.cn p hp) l⟩
theorem new_self {H H' : Hp} : New H H' H' := fun _ _ e _ => e
theorem hold_of {K : PySem.W.Frag} {H : Hp} {v : V} {hd : Option (Int × Str)} (h : Dp K H v (holdD hd)) (ok : hdOk hd) : HoldV K H v hd := by
  cases hd with
  | none => exact dp_none h
  | some p =>
    obtain ⟨a, w⟩ := p
    unfold holdD at h
    cases h with
    | tup hs hd' =>
      obtain ⟨x1, r1, rfl, e1, b1⟩ := dpAll_cons hd'
      obtain rfl := dp_int e1
      obtain ⟨x2, r2, rfl, e2, b2⟩ := dpAll_cons b1
      obtain rfl := dp_strv e2
      obtain rfl := dpAll_nil b2
      exact ⟨_, rfl, hs, ok a w rfl⟩
theorem od_at {K : PySem.W.Frag} {H : Hp} {v : V} {o : Option Int} (h : Dp K H v (oD o)) : (o = none ∧ v = .non) ∨ ∃ i, o = some i ∧ v = .int i := by
  cases o with
  | none => exact .inl ⟨rfl, dp_none h⟩
  | some i => exact .inr ⟨i, rfl, dp_int h⟩
section
variable {P : Program} {wd : World} {K : PySem.W.Frag} {mg : Str → Option Value} {base : Heap} {f fO fW fC fD fA fH : Addr} {fd fdO fdW fdC fdD fdA fdH : FuncData}
end
end Sg

set_option Elab.async false
set_option linter.all false
set_option maxRecDepth 100000
set_option maxHeartbeats 4000000
namespace Sg
open PySem PySem.Spec PyProof.Rows L2
/-! ### == of two tables whose keys are tuples, alike entry for entry -/
section
variable {prog : Program} {w : World} {κ : Type} [DecidableEq κ] {knd : HeapKind prog w κ} {A : Around} {E : Value → Shared → Prop} {s : Shared}
/-- alike at the place i -/
def LikeAt (prog : Program) (w : World) (A : Around) (s : Shared) (xs ys : List (κ × Addr × Value)) : Prop := xs.length = ys.length ∧ ∀ (i : Nat) x y, xs[i]? = some x → ys[i]? = some y → x.1 = y.1 ∧ SeqAt.EqP prog w A s x.2.2 y.2.2 true
theorem same_tabs {nm : String} {a b : Addr} {xs ys : List (κ × Addr × Value)} {Q : Bool → Shared → Prop} (na : (a == sysModules) = false) (nb : (b == sysModules) = false) (hx : s.heap.DictOfH knd a xs) (hy : s.heap.DictOfH knd b ys) (hu : knd.room A) (lk : LikeAt prog w A s xs ys) (h : Q true s) :
    wpAny (model prog w) A (Builtin.Dict.samePairs nm a b) Q E s := by
  obtain ⟨oa, ea, pa, ga, _, da, la, ka, _⟩ := hx
  obtain ⟨ob, eb, pb, gb, _, db, lb, kb, nd⟩ := hy
  have za := size_of_entries la
  have zb := size_of_entries lb
  have zz : ea.size = eb.size := by rw [za, zb, lk.1]
  unfold Builtin.Dict.samePairs Builtin.Dict.showsAll
  rw [if_neg (by rw [na]; exact Bool.false_ne_true), if_neg (by rw [nb]; exact Bool.false_ne_true)]
  refine wpAny_bind (wpAny_pure (wpAny_bind (wpAny_pure (wpAny_bind (wpAny_dictEntries ga da ?_)))))
  dsimp only
  refine wpAny_bind (wpAny_dictEntries gb db ?_)
  rw [if_neg (by rw [zz]; simp)]
  refine wpAny_bind (wpAny_dictEpoch ga da (wpAny_bind ?_))
  rw [Std.Legacy.Range.forIn_eq_forIn_range']
  simp only [Std.Legacy.Range.size, Nat.sub_zero, Nat.add_sub_cancel, Nat.div_one]
  refine wpAny_forIn_list _ (fun rest q u => u = s ∧ q = (none, ()) ∧ ∃ i, rest = List.range' i (ea.size - i) ∧ i ≤ ea.size) _ ?_ ?_ _ _ ⟨rfl, rfl, 0, by simp, Nat.zero_le _⟩
  · rintro i rest q u ⟨rfl, rfl, j, hr, _⟩
    have lt : j < ea.size := by
      rcases Nat.lt_or_ge j ea.size with c | c
      · exact c
      · rw [Nat.sub_eq_zero_of_le c] at hr; simp at hr
    rw [show ea.size - j = (ea.size - (j + 1)) + 1 from by omega, List.range'_succ] at hr
    obtain ⟨rfl, hrest⟩ := List.cons.inj hr
    obtain ⟨x, hxi⟩ : ∃ x, xs[i]? = some x := ⟨xs[i]'(by omega), List.getElem?_eq_getElem (by omega)⟩
    obtain ⟨y, hyi⟩ : ∃ y, ys[i]? = some y := ⟨ys[i]'(by omega), List.getElem?_eq_getElem (by omega)⟩
    obtain ⟨ek, eq⟩ := lk.2 i x y hxi hyi
    have enx : ea[i]? = some (entryOfKey knd x) := by rw [entry_at la i, hxi]; rfl
    refine wpAny_bind (wpAny_dictEntries ga da ?_)
    rw [enx]
    have hkx := ka x (List.mem_of_getElem? hxi)
    refine wpAny_bind (wpAny_holding (wpAny_bind (wpAny_dictFind_heap hu hkx gb db lb kb nd (fun no => absurd (show ys[i]? = some (x.1, y.2) by rw [hyi, ek]) (no i y.2)) fun j' p hj' => ?_)))
    have ji : j' = i := by
      have e1 : (ys.map (·.1))[j']? = some x.1 := by rw [List.getElem?_map, hj']; rfl
      have e2 : (ys.map (·.1))[i]? = some x.1 := by rw [List.getElem?_map, hyi, ek]; rfl
      have l1 := (List.getElem?_eq_some_iff.mp e1).1
      have l2 := (List.getElem?_eq_some_iff.mp e2).1
      have ee := (List.getElem?_eq_some_iff.mp e1).2.trans (List.getElem?_eq_some_iff.mp e2).2.symm
      rcases Nat.lt_trichotomy j' i with c | c | c
      · exact absurd ee ((List.pairwise_iff_getElem.mp nd) j' i l1 l2 c)
      · exact c
      · exact absurd ee.symm ((List.pairwise_iff_getElem.mp nd) i j' l2 l1 c)
    subst ji
    have eny : eb[j']? = some (entryOfKey knd y) := by rw [entry_at lb j', hyi]; rfl
    refine wpAny_bind (wpAny_dictEntries gb db ?_)
    rw [eny]
    refine wpAny_holding (eq _ _ ?_)
    show wpAny _ _ (if (!true) = true then _ else _) _ _ _
    rw [if_neg (by decide)]
    refine wpAny_bind (wpAny_dictEpoch ga da ?_)
    rw [if_neg (by simp)]
    exact wpAny_pure ⟨rfl, rfl, j' + 1, hrest, lt⟩
  · rintro q u ⟨rfl, rfl, _⟩
    exact wpAny_pure h
theorem eq_tabs {a b : Addr} {xs ys : List (κ × Addr × Value)} (na : (a == sysModules) = false) (nb : (b == sysModules) = false) (hx : s.heap.DictOfH knd a xs) (hy : s.heap.DictOfH knd b ys) (hu0 : A.units < cLine) (hu : knd.room A.in1) (lk : LikeAt prog w A.in1 s xs ys) (E Q : Value → Shared → Prop) (h : Q (.bool true) s) :
    wpAny (model prog w) A (richCompare .Eq (.ref a) (.ref b)) Q E s := by
  refine wpAny_richCompare_same_room (op := .Eq) hx.typeIs hy.typeIs PySem.F.slot_dict_eq (wpAny_call_entry PySem.F.slot_dict_eq hx.typeIs PySem.F.entry_dict_eq ?_ (PySem.F.args_dict_eq_2 _ _)) hu0
  show wpAny _ _ (Builtin.Dict.dictSlotArgs "__eq__" ⟨[.ref a, .ref b], []⟩ >>= _) _ _ s
  unfold Builtin.Dict.dictSlotArgs
  refine wpAny_bind (wpAny_bind (wpAny_notOrdered_dict hx.typeIs ?_))
  show wpAny _ _ (pure (Value.ref a, Value.ref b)) _ _ s
  refine wpAny_pure (wpAny_bind (wpAny_isInstance (T := "dict") hy.typeIs PySem.F.sub_dict_dict ?_))
  simp only [Bool.not_true, Bool.false_eq_true, if_false]
  refine wpAny_bind (wpAny_pure (wpAny_bind (wpAny_pure (wpAny_bind (same_tabs na nb hx hy hu lk ?_)))))
  exact wpAny_pure ⟨_, rfl, (fun x => nomatch x), h⟩
end
end Sg

set_option Elab.async false
set_option linter.all false
set_option maxRecDepth 100000
set_option maxHeartbeats 4000000
namespace Sg
open PySem PySem.Spec PyProof.Rows L2
/-! ### == of nested tables, alike entry for entry -/
def EqT (K : PySem.W.Frag) (H : Hp) (E : V → V → Prop) (x y : V) : Prop :=
  (∃ a b xs ys, x = .ref a ∧ y = .ref b ∧ SqT K H a xs ∧ SqT K H b ys ∧ Paired E xs ys) ∨
  (∃ a b ks ls, x = .ref a ∧ y = .ref b ∧ H a = some (.dK ks) ∧ H b = some (.dK ls) ∧ ks.length = ls.length ∧ ∀ p ∈ ks, ∃ u, valV ls p.1 = some u ∧ E p.2 u) ∨
  ∃ a b ks ls, x = .ref a ∧ y = .ref b ∧ H a = some (.dT ks) ∧ H b = some (.dT ls) ∧ Paired (fun p q => p.1 = q.1 ∧ E p.2 q.2) ks ls
def EqS (K : PySem.W.Frag) (H : Hp) : Nat → V → V → Prop
  | 0 => fun _ _ => False
  | n + 1 => fun x y => (∃ d, Dp K H x d ∧ Dp K H y d ∧ d.canLay0 = true ∧ d.depth ≤ 64) ∨ EqT K H (EqS K H n) x y
theorem like_at {P : Program} {w : World} {A : Around} {s : Shared} {H : Hp} {F : V → V → Prop} (ih : ∀ x y v u, F x y → RelV x v → RelV y u → SeqAt.EqP P w A s v u true) {ks ls : List (List Key × V)} (h : Paired (fun p q => p.1 = q.1 ∧ F p.2 q.2) ks ls) {xs ys : List (List Key × Addr × Value)} (rx : KT H ks xs) (ry : KT H ls ys) : LikeAt P w A s xs ys := by
  have l1 := Paired.length rx
  have l2 := Paired.length ry
  have l3 := Paired.length h
  refine ⟨by omega, fun i x y hx hy => ?_⟩
  have il := (List.getElem?_eq_some_iff.mp hx).1
  have jl := (List.getElem?_eq_some_iff.mp hy).1
  obtain ⟨x', hx', q1, _, q3⟩ := paired_get rx (show ks[i]? = some (ks[i]'(by omega)) from List.getElem?_eq_getElem (by omega))
  obtain ⟨y', hy', r1, _, r3⟩ := paired_get ry (show ls[i]? = some (ls[i]'(by omega)) from List.getElem?_eq_getElem (by omega))
  rw [hx] at hx'; cases hx'
  rw [hy] at hy'; cases hy'
  obtain ⟨z, hz, t1, t2⟩ := paired_get h (show ks[i]? = some (ks[i]'(by omega)) from List.getElem?_eq_getElem (by omega))
  rw [List.getElem?_eq_getElem (by omega)] at hz
  cases hz
  exact ⟨q1.symm.trans (t1.trans r1), ih _ _ _ _ t2 q3 r3⟩
section
variable {X : Cx} {pins : List (Addr × Obj)} {σ : L2.St} {H : Hp} {s : Shared}
theorem eqT_run (I : L2.Inv X pins σ H s) {A : Around} {F : V → V → Prop} (hu : A.units + 1 < cLine) (ih : ∀ x y v u, F x y → RelV x v → RelV y u → SeqAt.EqP X.prog X.w A.in1 s v u true) {x y : V} {v u : Value} (h : EqT X.K H F x y) (rx : RelV x v) (ry : RelV y u)
    (E Q : Value → Shared → Prop) (q : Q (.bool true) s) : wpAny (model X.prog X.w) A (richCompare .Eq v u) Q E s := by
  rcases h with ⟨a, b, xs, ys, rfl, rfl, ha, hb, hp⟩ | ⟨a, b, ks, ls, rfl, rfl, ha, hb, hl, hp⟩ | ⟨a, b, ks, ls, rfl, rfl, ha, hb, hp⟩
  · obtain rfl : v = Value.ref a := rx
    obtain rfl : u = Value.ref b := ry
    obtain ⟨its, r, e, z⟩ := I.tuple ha
    obtain ⟨its2, r2, e2, z2⟩ := I.tuple hb
    have hsz : its.toArray.size = its2.toArray.size := by rw [List.size_toArray, List.size_toArray, ← r.length, ← r2.length]; exact Paired.length hp
    refine GQ.rc_tupG hsz (by omega) (fun _ s' => s' = s) e e2 (fun i h1 h2 s' es => ?_) (fun s' es => by subst es; exact q) rfl
    subst es
    exact items_run ih hp r r2 i (by simpa using h1) (by simpa using h2) _ _ ⟨rfl, rfl⟩
  · obtain rfl : v = Value.ref a := rx
    obtain rfl : u = Value.ref b := ry
    obtain ⟨_, ya, va, ra, da⟩ := (show ObjOk X.prog X.w H s.heap a (.dK ks) from I.hok a _ ha)
    obtain ⟨_, yb, vb, rb, db⟩ := (show ObjOk X.prog X.w H s.heap b (.dK ls) from I.hok b _ hb)
    refine PySem.W.rcP_dicts (knd := mixKind X.prog X.w) (r := true) ya yb da db (by omega) (fun _ => hits_run ih rb ra hp) E Q ?_
    have e : va.length = vb.length := by rw [← ra.length, ← rb.length]; exact hl
    rw [show (va.length == vb.length && true) = true from by rw [e]; simp]
    exact q
  · obtain rfl : v = Value.ref a := rx
    obtain rfl : u = Value.ref b := ry
    obtain ⟨_, ya, va, ra, da⟩ := dt_of I.hok ha
    obtain ⟨_, yb, vb, rb, db⟩ := dt_of I.hok hb
    exact eq_tabs (knd := tupleKind (mixKind X.prog X.w)) ya yb da db (by omega) (tupleKind_room_in1 hu) (like_at ih hp ra rb) E Q q
theorem eqS_run (I : L2.Inv X pins σ H s) : ∀ (n : Nat) (A : Around), A.units + n + 65 < cLine → ∀ (x y : V) (v u : Value), EqS X.K H n x y → RelV x v → RelV y u → SeqAt.EqP X.prog X.w A s v u true
  | 0, _, _, _, _, _, _, h, _, _ => (show False from h).elim
  | n + 1, A, hu, x, y, v, u, h, rx, ry => by
    rcases h with ⟨d, hd, he, hl, hdp⟩ | h
    · obtain ⟨as, r1⟩ := Dp.reads I d x v hd rx
      obtain ⟨bs, r2⟩ := Dp.reads I d y u he ry
      have := (SeqAt.eqAt_reads d d A s v u as bs r1 r2 hl hl (by rw [Nat.min_self]; omega)).eqP (prog := X.prog) (w := X.w)
      rw [SeqAt.eqv_refl d hl] at this; exact this
    · have step := eqT_run I (A := A) (by omega) (eqS_run I n A.in1 (by show A.units + 1 + n + 65 < cLine; omega)) h rx ry
      obtain ⟨a, b, rfl, rfl⟩ : ∃ a b, x = .ref a ∧ y = .ref b := by
        rcases h with ⟨a, b, _, _, e1, e2, _⟩ | ⟨a, b, _, _, e1, e2, _⟩ | ⟨a, b, _, _, e1, e2, _⟩ <;> exact ⟨a, b, e1, e2⟩
      obtain rfl : v = Value.ref a := rx
      obtain rfl : u = Value.ref b := ry
      by_cases e : a = b
      · subst e
        exact (SeqAt.EqAt.same _).eqP
      · exact SeqAt.eqP_refs e step
def rEqS (K : PySem.W.Frag) : R2 := fun x y H Q => ∃ n, n ≤ 10 ∧ EqT K H (EqS K H n) x y ∧ Q (.bl true) H
theorem op_eqS (hu : X.A.units + 80 < cLine) : OpR X (compareOp .Eq) (rEqS X.K) := by
  intro pins s σ H x y v u Q I rx ry h
  obtain ⟨n, hn, h, q⟩ := h
  exact eqT_run I (A := X.A) (by omega) (eqS_run I n X.A.in1 (by show X.A.units + 1 + n + 65 < cLine; omega)) h rx ry _ _ ⟨.bl true, H, I, rfl, q⟩
end
end Sg

set_option Elab.async false
set_option linter.all false
set_option maxRecDepth 100000
set_option maxHeartbeats 4000000
namespace Sg
open PySem PySem.Spec PyProof.Rows L2
/-! ### != and == of two states that are alike -/
section
variable {prog : Program} {w : World} {κ : Type} [DecidableEq κ] {knd : KeyKind prog w κ} {A : Around} {s : Shared}
theorem ne_dicts {a b : Addr} {ka kb : List (κ × Value)} {E Q : Value → Shared → Prop} (na : (a == sysModules) = false) (nb : (b == sysModules) = false) (da : s.heap.DictOf knd a ka) (db : s.heap.DictOf knd b kb) (hu : A.units < cLine) (hl : ka.length = kb.length)
    (hits : PySem.W.KeqHitsP prog w A.in1 s kb ka true) (h : Q (.bool false) s) : wpAny (model prog w) A (compareOp .NotEq (.ref a) (.ref b)) Q E s := by
  refine wpAny_richCompare_same_room (op := .NotEq) da.typeIs db.typeIs PySem.F.slot_dict_ne (wpAny_call_entry PySem.F.slot_dict_ne da.typeIs PySem.F.entry_dict_ne ?_ (PySem.F.args_dict_ne_2 _ _)) hu
  show wpAny _ _ (Builtin.Dict.dictSlotArgs "__ne__" ⟨[.ref a, .ref b], []⟩ >>= _) _ _ s
  unfold Builtin.Dict.dictSlotArgs
  refine wpAny_bind (wpAny_bind (wpAny_notOrdered_dict da.typeIs ?_))
  show wpAny _ _ (pure (Value.ref a, Value.ref b)) _ _ s
  refine wpAny_pure (wpAny_bind (wpAny_isInstance (T := "dict") db.typeIs PySem.F.sub_dict_dict ?_))
  simp only [Bool.not_true, Bool.false_eq_true, if_false]
  refine wpAny_bind (wpAny_pure (wpAny_bind (wpAny_pure (wpAny_bind (PySem.W.samePairsP (r := true) na nb da db (fun _ => hits) ?_)))))
  refine wpAny_pure ⟨_, rfl, (fun x => nomatch x), ?_⟩
  rw [show ((ka.length == kb.length && true) == false) = false from by rw [hl]; simp]
  exact h
end
section
variable {X : Cx}
/-- two dicts alike: what != says -/
def rNeS (K : PySem.W.Frag) : R2 := fun x y H Q => ∃ (n : Nat) (a b : Addr) (ks ls : List (Key × V)), n ≤ 10 ∧ x = .ref a ∧ y = .ref b ∧ H a = some (.dK ks) ∧ H b = some (.dK ls) ∧ ks.length = ls.length ∧ (∀ p ∈ ks, ∃ u, valV ls p.1 = some u ∧ EqS K H n p.2 u) ∧ Q (.bl false) H
theorem op_neS (hu : X.A.units + 80 < cLine) : OpR X (compareOp .NotEq) (rNeS X.K) := by
  intro pins s σ H x y v u Q I rx ry h
  obtain ⟨n, a, b, ks, ls, hn, rfl, rfl, ha, hb, hl, hp, q⟩ := h
  obtain rfl : v = Value.ref a := rx
  obtain rfl : u = Value.ref b := ry
  obtain ⟨_, ya, va, ra, da⟩ := (show ObjOk X.prog X.w H s.heap a (.dK ks) from I.hok a _ ha)
  obtain ⟨_, yb, vb, rb, db⟩ := (show ObjOk X.prog X.w H s.heap b (.dK ls) from I.hok b _ hb)
  exact ne_dicts (knd := mixKind X.prog X.w) ya yb da db (by omega) (by rw [← ra.length, ← rb.length]; exact hl) (hits_run (eqS_run I n X.A.in1 (by show X.A.units + 1 + n + 65 < cLine; omega)) rb ra hp) ⟨.bl false, H, I, rfl, q⟩
end
/-! ### two states that hold the same -/
section
variable {K : PySem.W.Frag} {H : Hp}
theorem hold_dp {v : V} {hd : Option (Int × Str)} (h : HoldV K H v hd) : Dp K H v (holdD hd) := by
  cases hd with
  | none => obtain rfl : v = .non := h; exact .non
  | some p => obtain ⟨q, rfl, hq, _⟩ := h; exact .tup hq (.cons (.int _) (.cons (.str _) .nil))
theorem rows_dp : ∀ {ps : List Addr} {rs : List (Int × Int)}, Paired (fun (p : Addr) (x : Int × Int) => H p = some (.tup [.int x.1, .int x.2])) ps rs → DpAll K H (ps.map V.ref) (rs.map rowD)
  | _, _, .nil => .nil
  | _, _, .cons h t => .cons (.tup (SqT.of h) (.cons (.int _) (.cons (.int _) .nil))) (rows_dp t)
theorem fence_dp {v : V} {rg : List (Int × Int)} {hd : Option (Int × Str)} (h : FenceAt K H v rg hd) : Dp K H v (fenceD rg hd) := by
  obtain ⟨a, r, hv, rfl, h1, ⟨ps, h2, h3⟩, h4⟩ := h
  exact .tup h1 (.cons (.tup h2.t (rows_dp h3)) (.cons (hold_dp h4) .nil))
theorem rows_lay : ∀ rs : List (Int × Int), PyData.canLayAll0 (rs.map rowD) = true ∧ PyData.depthAll (rs.map rowD) ≤ 1
  | [] => ⟨by simp [PyData.canLayAll0], by simp [PyData.depthAll]⟩
  | x :: rs => by
    obtain ⟨i1, i2⟩ := rows_lay rs
    refine ⟨by simp [rowD, PyData.canLayAll0, PyData.canLay0, i1], ?_⟩
    simp only [List.map_cons, rowD, PyData.depthAll, PyData.depth]; omega
theorem fence_lay {rg : List (Int × Int)} {hd : Option (Int × Str)} (ok : hdOk hd) : (fenceD rg hd).canLay0 = true ∧ (fenceD rg hd).depth ≤ 64 := by
  obtain ⟨i1, i2⟩ := rows_lay rg
  cases hd with
  | none =>
    refine ⟨by simp [fenceD, holdD, PyData.canLay0, PyData.canLayAll0, i1], ?_⟩
    simp only [fenceD, holdD, PyData.depth, PyData.depthAll]; omega
  | some p =>
    obtain ⟨h, w⟩ := p
    refine ⟨by simp [fenceD, holdD, PyData.canLay0, PyData.canLayAll0, i1, ok h w rfl], ?_⟩
    simp only [fenceD, holdD, PyData.depth, PyData.depthAll]; omega
theorem fence_ok {v : V} {rg : List (Int × Int)} {hd : Option (Int × Str)} (h : FenceAt K H v rg hd) : hdOk hd := by
  obtain ⟨a, r, hv, rfl, h1, h2, h4⟩ := h
  intro x w e
  subst e
  obtain ⟨q, _, _, ok⟩ := h4
  exact ok
theorem eqS_data {n : Nat} {x y : V} {d : PyData} (h1 : Dp K H x d) (h2 : Dp K H y d) (l : d.canLay0 = true) (dp : d.depth ≤ 64) : EqS K H (n + 1) x y := .inl ⟨d, h1, h2, l, dp⟩
/-- two tables alike, the values by E -/
theorem tab_hits {α β : Type} [DecidableEq α] {R : V → β → Prop} {emb : α → Key} {F : V → V → Prop} (he : ∀ a b, emb a = emb b → a = b) (hf : ∀ x y v, R x v → R y v → F x y) : ∀ {ks ls : List (Key × V)} {l : List (α × β)}, (l.map (·.1)).Nodup → Paired (fun (p : Key × V) (q : α × β) => p.1 = emb q.1 ∧ R p.2 q.2) ks l → Paired (fun (p : Key × V) (q : α × β) => p.1 = emb q.1 ∧ R p.2 q.2) ls l →
    ks.length = ls.length ∧ ∀ p ∈ ks, ∃ u, valV ls p.1 = some u ∧ F p.2 u := by
  intro ks ls l nd h1 h2
  refine ⟨(Paired.length h1).trans (Paired.length h2).symm, fun p hp => ?_⟩
  obtain ⟨i, hi⟩ := List.mem_iff_getElem?.mp hp
  obtain ⟨q, hq, e1, r1⟩ := paired_at h1 hi
  have il := (List.getElem?_eq_some_iff.mp hq).1
  have l2 := Paired.length h2
  obtain ⟨u, hu⟩ : ∃ u, ls[i]? = some u := ⟨ls[i]'(by omega), List.getElem?_eq_getElem (by omega)⟩
  obtain ⟨q', hq', e2, r2⟩ := paired_at h2 hu
  rw [hq] at hq'; cases hq'
  refine ⟨u.2, ?_, hf _ _ _ r1 r2⟩
  have : ls[i]? = some (p.1, u.2) := by rw [hu, e1, ← e2]
  exact valV_get (pr_nodup he (R := R) h2 nd) this
theorem tab_pairs {α β : Type} {R : V → β → Prop} {emb : α → List Key} {F : V → V → Prop} (hf : ∀ x y v, R x v → R y v → F x y) : ∀ {ks ls : List (List Key × V)} {l : List (α × β)}, Paired (fun (p : List Key × V) (q : α × β) => p.1 = emb q.1 ∧ R p.2 q.2) ks l → Paired (fun (p : List Key × V) (q : α × β) => p.1 = emb q.1 ∧ R p.2 q.2) ls l → Paired (fun p q => p.1 = q.1 ∧ F p.2 q.2) ks ls
  | _, _, _, .nil, .nil => .nil
  | _, _, _, .cons h t, .cons h' t' => .cons ⟨h.1.trans h'.1.symm, hf _ _ _ h.2 h'.2⟩ (tab_pairs hf t t')
theorem cells_eq {n : Nat} {a b : Addr} {cs : Cells} (h1 : CellAt K H a cs) (h2 : CellAt K H b cs) : EqS K H (n + 2) (.ref a) (.ref b) := by
  obtain ⟨ks, ha, pa, nd⟩ := h1
  obtain ⟨ls, hb, pb, _⟩ := h2
  obtain ⟨e, hp⟩ := tab_hits (R := fun x (v : Int) => x = .int v) (F := EqS K H (n + 1)) eI_inj (fun x y v r1 r2 => by subst r1 r2; exact eqS_data (.int _) (.int _) (by simp [PyData.canLay0]) (by simp [PyData.depth])) nd pa pb
  exact .inr (.inr (.inl ⟨a, b, ks, ls, rfl, rfl, ha, hb, e, hp⟩))
theorem space_eq {n : Nat} {x y : V} {s : Spc} (h1 : SpcAt K H x s) (h2 : SpcAt K H y s) : EqS K H (n + 3) x y := by
  obtain ⟨a, c, f, rfl, a1, a2, a3⟩ := h1
  obtain ⟨b, d, g, rfl, b1, b2, b3⟩ := h2
  obtain ⟨l1, l2⟩ := fence_lay (rg := s.rg) (fence_ok a3)
  exact .inr (.inl ⟨a, b, _, _, rfl, rfl, a1, b1, .cons (eqS_data (.int _) (.int _) (by simp [PyData.canLay0]) (by simp [PyData.depth])) (.cons (cells_eq a2 b2) (.cons (eqS_data (fence_dp a3) (fence_dp b3) l1 l2) .nil))⟩)
/-- the marks' data are plain -/
def MrkOk (m : Mrk) : Prop := (markD m).canLay0 = true ∧ (markD m).depth ≤ 64
theorem state_eq {a b : Addr} {st : Sta} (h1 : StAt K H a st) (h2 : StAt K H b st) (mk : ∀ p ∈ st.mr, MrkOk p.2) : ∃ ks ls, H a = some (.dK ks) ∧ H b = some (.dK ls) ∧ ks.length = ls.length ∧ ∀ p ∈ ks, ∃ u, valV ls p.1 = some u ∧ EqS K H 5 p.2 u := by
  obtain ⟨b1, b2, b3, ha, t1, t2, t3⟩ := h1
  obtain ⟨c1, c2, c3, hb, u1, u2, u3⟩ := h2
  refine ⟨_, _, ha, hb, rfl, fun p hp => ?_⟩
  have s1 : EqS K H 5 (.ref b1) (.ref c1) := by
    obtain ⟨ks, g1, g2, nd⟩ := t1
    obtain ⟨ls, k1, k2, _⟩ := u1
    obtain ⟨e, hp⟩ := tab_hits (R := SpcAt K H) (F := EqS K H 4) eI_inj (fun x y v r1 r2 => space_eq r1 r2) nd g2 k2
    exact .inr (.inr (.inl ⟨b1, c1, ks, ls, rfl, rfl, g1, k1, e, hp⟩))
  have s2 : EqS K H 5 (.ref b2) (.ref c2) := by
    obtain ⟨ks, g1, g2, nd⟩ := t2
    obtain ⟨ls, k1, k2, _⟩ := u2
    refine .inr (.inr (.inr ⟨b2, c2, ks, ls, rfl, rfl, g1, k1, tab_pairs (R := SnpAt K H) (fun x y v r1 r2 => ?_) g2 k2⟩))
    obtain ⟨d, rfl, d1⟩ := r1
    obtain ⟨e, rfl, e1⟩ := r2
    exact cells_eq d1 e1
  have s3 : EqS K H 5 (.ref b3) (.ref c3) := by
    obtain ⟨ks, g1, g2, nd⟩ := t3
    obtain ⟨ls, k1, k2, _⟩ := u3
    refine .inr (.inr (.inl ⟨b3, c3, ks, ls, rfl, rfl, g1, k1, ?_⟩))
    refine ⟨(Paired.length g2).trans (Paired.length k2).symm, fun p hp => ?_⟩
    obtain ⟨i, hi⟩ := List.mem_iff_getElem?.mp hp
    obtain ⟨q, hq, e1, r1⟩ := paired_at g2 hi
    have il := (List.getElem?_eq_some_iff.mp hq).1
    have l2 := Paired.length k2
    obtain ⟨u, hu⟩ : ∃ u, ls[i]? = some u := ⟨ls[i]'(by omega), List.getElem?_eq_getElem (by omega)⟩
    obtain ⟨q', hq', e2, r2⟩ := paired_at k2 hu
    rw [hq] at hq'; cases hq'
    have ok := mk q (List.mem_of_getElem? hq)
    refine ⟨u.2, valV_get (pr_nodup eI_inj (R := MrkAt K H) k2 nd) (by rw [hu, e1, ← e2]), eqS_data r1 r2 ok.1 ok.2⟩
  have s0 : EqS K H 5 (.int st.o) (.int st.o) := eqS_data (.int _) (.int _) (by simp [PyData.canLay0]) (by simp [PyData.depth])
  unfold stK at hp
  simp only [List.mem_cons, List.not_mem_nil, or_false] at hp
  rcases hp with rfl | rfl | rfl | rfl
  · exact ⟨_, rfl, s0⟩
  · exact ⟨_, rfl, s1⟩
  · exact ⟨_, rfl, s2⟩
  · exact ⟨_, rfl, s3⟩
end
end Sg

set_option Elab.async false
set_option linter.all false
set_option maxRecDepth 100000
set_option maxHeartbeats 4000000
namespace Sg
open PySem PySem.Spec PyProof.Rows L2
/-! ### != of two tuples whose items are alike -/
section
variable {prog : Program} {w : World} {A : Around} {s : Shared} {E Q : Value → Shared → Prop}
theorem tup_ne {l b : Addr} {xs ys : Array Value} (hsz : xs.size = ys.size) (hl : s.heap.IsTuple l xs) (hb : s.heap.IsTuple b ys) (hu : A.units < cLine)
    (al : ∀ i (h1 : i < xs.size) (h2 : i < ys.size), SeqAt.EqP prog w A.in1 s xs[i] ys[i] true) (h : Q (.bool false) s) : wpAny (model prog w) A (compareOp .NotEq (.ref l) (.ref b)) Q E s := by
  obtain ⟨⟨c1, d1, t1, s1⟩, o1, e1, n1, e2⟩ := id hl
  obtain ⟨⟨c2, d2, t2, s2⟩, o2, e3, n2, e4⟩ := id hb
  simp only at e1 e2 e3 e4
  subst e1 e2 e3 e4
  refine wpAny_richCompare_same_room (op := .NotEq) ⟨_, o1, rfl⟩ ⟨_, o2, rfl⟩ PySem.F.slot_tuple_ne (GQ.call_here PySem.F.slot_tuple_ne ⟨_, o1, rfl⟩ PySem.F.entry_tuple_ne (PySem.F.args_tuple_ne_2 _ _) ?_) hu
  have f2 := AutoSeq1.sub_tuple_tuple
  have zl : (xs.toList.zip ys.toList).length = xs.size := by simp [hsz]
  obtain ⟨hp, g, d, tk, os⟩ := s
  wp_walk using wpAny_loadPart' o1, wpAny_loadPart' o2, wpAny_forIn_list _ (fun rest r s' => r.1 = none ∧ s' = ⟨hp, g, d, tk, os⟩ ∧ ∃ i, rest = (xs.toList.zip ys.toList).drop i ∧ i ≤ xs.size) _
  case turn =>
    rintro ⟨y, x⟩ rest r s' ⟨hr, rfl, i, hz, hi⟩
    have lt : i < (xs.toList.zip ys.toList).length := by
      refine Nat.lt_of_not_le fun z => ?_
      rw [List.drop_of_length_le z] at hz; cases hz
    have h1 : i < xs.size := zl ▸ lt
    have h2 : i < ys.size := hsz ▸ h1
    rw [List.drop_eq_getElem_cons lt] at hz
    injection hz with z1 z2
    obtain rfl : y = xs[i] := by simpa using congrArg Prod.fst z1
    obtain rfl : x = ys[i] := by simpa using congrArg Prod.snd z1
    refine wpAny_bind (al i h1 h2 _ _ ?_)
    wp_walk
    exact ⟨rfl, rfl, i + 1, z2, h1⟩
  case fin =>
    rintro ⟨b1, b2⟩ s' ⟨hb', rfl, i, hz, hi⟩
    simp only at hb'
    subst hb'
    wp_walk
    have e : Builtin.Tuple.tupleCompareSizes .NotEq xs.size ys.size = .bool false := by rw [hsz]; simp [Builtin.Tuple.tupleCompareSizes, bne]
    rw [e]; exact ⟨(fun x => nomatch x), h⟩
  case h =>
    exact ⟨rfl, rfl, 0, rfl, Nat.zero_le _⟩
end
section
variable {X : Cx}
def rNeT (K : PySem.W.Frag) : R2 := fun x y H Q => ∃ (n : Nat) (a b : Addr) (xs ys : List V), n ≤ 10 ∧ x = .ref a ∧ y = .ref b ∧ SqT K H a xs ∧ SqT K H b ys ∧ Paired (EqS K H n) xs ys ∧ Q (.bl false) H
theorem op_neT (hu : X.A.units + 80 < cLine) : OpR X (compareOp .NotEq) (rNeT X.K) := by
  intro pins s σ H x y v u Q I rx ry h
  obtain ⟨n, a, b, xs, ys, hn, rfl, rfl, ha, hb, hp, q⟩ := h
  obtain rfl : v = Value.ref a := rx
  obtain rfl : u = Value.ref b := ry
  obtain ⟨its, r, e, z⟩ := I.tuple ha
  obtain ⟨its2, r2, e2, z2⟩ := I.tuple hb
  refine tup_ne (by rw [List.size_toArray, List.size_toArray, ← r.length, ← r2.length]; exact Paired.length hp) e e2 (by omega) (fun i h1 h2 => ?_) ⟨.bl false, H, I, rfl, q⟩
  exact items_run (eqS_run I n X.A.in1 (by show X.A.units + 1 + n + 65 < cLine; omega)) hp r r2 i (by simpa using h1) (by simpa using h2)
end
end Sg

set_option Elab.async false
set_option linter.all false
set_option maxRecDepth 100000
set_option maxHeartbeats 4000000
namespace Sg
open PySem PySem.Spec PyProof.Rows L2
/-! ### reading a state -/
theorem bt_int : bootBuiltins "int" = some (.type "int") := by decide +kernel
theorem bt_bool : bootBuiltins "bool" = some (.type "bool") := by decide +kernel
theorem bt_isi : bootBuiltins "isinstance" = some (.builtin "isinstance") := by decide +kernel
theorem bt_repr : bootBuiltins "repr" = some (.builtin "repr") := by decide +kernel
theorem bt_min : bootBuiltins "min" = some (.builtin "min") := by decide +kernel
structure NV (K : PySem.W.Frag) (mg : Str → Option Value) (CN CS : Addr) : Prop where
  gN : mg "NotValid" = some (.ref CN)
  xN : PySem.W.excIn K CN [.type "ValueError", .type "Exception", .type "BaseException", .type "object"] "ValueError.__new__" = true
  kN : PySem.W.keepIn K (.ref CN) = true
  bN : PySem.W.subIn K (.ref CN) (.type "BaseException") = some true
  tN : PySem.W.typeIn K (.ref CN) = some (.type "type")
  gS : mg "SpindleError" = some (.ref CS)
  eN : PySem.W.exmOne K (.ref CN) (.ref CS) = some true
theorem ps_notValid {X : Cx} {W : WX} {p pos pos2 : Pos} {CN CS : Addr} (T : NV X.K X.mg CN CS) (hc : X.calm = true) (tk : Takes X W) (hg : Gl X "NotValid") : PS X (.Raise (some (.Call (.Name "NotValid" p) [] [] pos)) none pos2) (fun _ σ H => W (.ref CN) Option.none σ H) :=
  ps_raise hc tk (pmk_own0 PySem.F.excBase_ValueError T.xN T.gN T.kN (raises_own T.bN T.tN) hg)
structure BI (mg : Str → Option Value) : Prop where
  int : mg "int" = none
  bool : mg "bool" = none
  isi : mg "isinstance" = none
def oV : Option Int → V
  | none => .non
  | some i => .int i
def spWhole (K : PySem.W.Frag) : Sp := fun vs H Q _ => ∃ i : Int, vs = [.int i] ∧ Q (.bl true) H
def spSpaceOf (K : PySem.W.Frag) (CN : Addr) : Sp := fun vs H Q E => ∃ (a : Addr) (st : Sta) (n : Int), vs = [.ref a, .int n] ∧ StAt K H a st ∧ (lookI st.sp n = none → E (.ref CN) none H) ∧ ∀ s v, lookI st.sp n = some s → SpcAt K H v s → Q v H
def spReadCell (K : PySem.W.Frag) (CN : Addr) : Sp := fun vs H Q E => ∃ (a : Addr) (st : Sta) (n p : Int), vs = [.ref a, .int n, .int p] ∧ StAt K H a st ∧ (lookI st.sp n = none → E (.ref CN) none H) ∧ ∀ s, lookI st.sp n = some s → Q (oV (lookI s.cs p)) H
def spReadSnap (K : PySem.W.Frag) (CN : Addr) : Sp := fun vs H Q E => ∃ (a : Addr) (st : Sta) (n m p : Int), vs = [.ref a, .int n, .int m, .int p] ∧ StAt K H a st ∧ (lookI st.sn (n, m) = none → ∀ H', Same H H' → E (.ref CN) none H') ∧ ∀ cs, lookI st.sn (n, m) = some cs → ∀ H', Same H H' → Q (oV (lookI cs p)) H'
section
variable {P : Program} {wd : World} {K : PySem.W.Frag} {mg : Str → Option Value} {base : Heap} {f fW fS CN CS : Addr} {fd fdW fdS : FuncData}
theorem scWhole : FnScope ["value"] ["value"] (defScope sWhole) := ⟨rfl, rfl, rfl, by decide +kernel, rfl, by decide +kernel, by decide +kernel⟩
theorem ok_whole (F : Fun K "is_whole" "is_whole" sWhole f fd) (B : BI mg) : FnOk P wd K mg base CX0 1 f fd ["value"] (spWhole K) := by
  refine F.ok scWhole (fun vs H Q E h => ?_) (fun cdv A outer s H vs Q E hr h => ?_)
  · obtain ⟨i, rfl, _⟩ := h
    rfl
  · obtain ⟨i, rfl, q⟩ := h
    refine ⟨_, (pss_one (ps_ret (pe_and (pe_callB call_isi (by rfl) B.isi bt_isi (pa_cons (pv 0) (pa_cons (pe_bltn (v := .ty "int") (by rfl) B.int bt_int rfl) pa_nil))) (pe_one (pe_not (pe_callB call_isi (by rfl) B.isi bt_isi (pa_cons (pv 0) (pa_cons (pe_bltn (v := .ty "bool") (by rfl) B.bool bt_bool rfl) pa_nil)))))))), ?_⟩
    refine ⟨_, rfl, _, _, _, _, true, rfl, .ty "int", .base (.int _), kit_ty (by decide +kernel), _, rfl, chooseT rfl ?_⟩
    exact ⟨_, rfl, _, _, _, _, false, rfl, .ty "bool", .base (.int _), kit_ty (by decide +kernel), _, rfl, q⟩
theorem scSpaceOf : FnScope ["state", "namespace"] ["state", "namespace"] (defScope sSpaceOf) := ⟨rfl, rfl, rfl, by decide +kernel, rfl, by decide +kernel, by decide +kernel⟩
theorem ok_spaceOf (F : Fun K "space_of" "space_of" sSpaceOf f fd) (NVx : NV K mg CN CS) (GW : Def P wd K mg base CX0 "is_whole" 1 ["value"] (spWhole K) fW fdW) : FnOk P wd K mg base (L2.CX P wd) 2 f fd ["state", "namespace"] (spSpaceOf K CN) := by
  refine F.okX scSpaceOf (fun vs H Q E h => ?_) (fun cdv A outer s H vs Q E hr h => ?_)
  · obtain ⟨a, st, n, rfl, _⟩ := h
    rfl
  · obtain ⟨a, st, n, rfl, SA, k1, k2⟩ := h
    have hr1 : Room 1 _ := hr
    refine ⟨_, (pss_cons (ps_if (PW.pt (pw_or (pt_not (pt_val (pe_call GW.ok hr1 (by rfl) GW.mg GW.kp GW.bd .nil pass0 (pa_cons (pv 1) pa_nil)))) (pw_or1 (pt_cmp (pc_dnotin (hu_of hr) (pv 1) (pe_dget (hu_of hr) (pv 0) pe_str (fun _ _ => rfl)))))))
      (pss_one (ps_notValid NVx rfl (takes_of rfl rfl rfl rfl) (by rfl))) pss_nil)
      (pss_one (ps_ret (pe_dget (hu_of hr) (pe_dget (hu_of hr) (pv 0) pe_str (fun _ _ => rfl)) (pv 1) (fun _ _ => rfl))))), ?_⟩
    obtain ⟨b1, b2, b3, ha, ⟨kvs, hk, pr, nd⟩, _⟩ := id SA
    refine ⟨_, rfl, n, rfl, _, rfl, chooseF rfl ?_⟩
    rcases pr_look (R := SpcAt K H) eI_inj (k := n) pr with ⟨l0, hz⟩ | ⟨sp, z, l0, hz, az⟩
    · refine ⟨_, rfl, _, rfl, a, .ref b1, rfl, .inl ⟨_, .inr "spaces", .inl ha, rfl, rfl⟩, b1, none, rfl, .inl ⟨_, .inl n, .inl hk, rfl, hz.symm⟩, _, rfl, chooseT rfl ?_⟩
      exact k1 l0
    · refine ⟨_, rfl, _, rfl, a, .ref b1, rfl, .inl ⟨_, .inr "spaces", .inl ha, rfl, rfl⟩, b1, some z, rfl, .inl ⟨_, .inl n, .inl hk, rfl, hz.symm⟩, _, rfl, chooseF rfl ?_⟩
      exact ⟨_, rfl, a, .ref b1, rfl, .inl ⟨_, .inr "spaces", .inl ha, rfl, rfl⟩, _, rfl, b1, z, rfl, .inl ⟨_, .inl n, .inl hk, rfl, hz.symm⟩, k2 sp z l0 az⟩
theorem cell_get {H : Hp} {c : Addr} {cs : Cells} {p : Int} {R : Prop} (h : CellAt K H c cs) (k : ∀ o : Option V, DGet H c (.int p) o → o.getD .non = oV (lookI cs p) → R) : R := by
  obtain ⟨kvs, hc, pr, nd⟩ := h
  rcases pr_look (R := fun x v => x = V.int v) eI_inj (k := p) pr with ⟨l0, hz⟩ | ⟨v, z, l0, hz, az⟩
  · exact k none (.inl ⟨_, .inl p, .inl hc, rfl, hz.symm⟩) (by rw [l0]; rfl)
  · exact k (some z) (.inl ⟨_, .inl p, .inl hc, rfl, hz.symm⟩) (by rw [l0, az]; rfl)
theorem scReadCell : FnScope ["state", "namespace", "place", "_", "cells"] ["state", "namespace", "place"] (defScope sReadCell) := ⟨rfl, rfl, rfl, by decide +kernel, rfl, by decide +kernel, by decide +kernel⟩
theorem ok_readCell (F : Fun K "read_cell" "read_cell" sReadCell f fd) (GS : Def P wd K mg base (L2.CX P wd) "space_of" 2 ["state", "namespace"] (spSpaceOf K CN) fS fdS) : FnOk P wd K mg base (L2.CX P wd) 3 f fd ["state", "namespace", "place"] (spReadCell K CN) := by
  refine F.okX scReadCell (fun vs H Q E h => ?_) (fun cdv A outer s H vs Q E hr h => ?_)
  · obtain ⟨a, st, n, p, rfl, _⟩ := h
    rfl
  · obtain ⟨a, st, n, p, rfl, SA, k1, k2⟩ := h
    have hr2 : Room 2 _ := hr
    refine ⟨_, (pss_cons (ps_asg (pe_callS GS.ok hr2 (by rfl) GS.mg GS.kp GS.bd (fun σ => passAt (takes_of rfl rfl rfl rfl) σ) (pa_cons (pv 0) (pa_cons (pv 1) pa_nil))) (pg_tup (by rfl) (pgs_cons (pg_name (i := 3) scReadCell.nd rfl (Or.inl rfl)) (pgs_cons (pg_name (i := 4) scReadCell.nd rfl (Or.inl rfl)) (pgs_cons (pg_name (i := 3) scReadCell.nd rfl (Or.inl rfl)) L2.pgs_nil)))))
      (pss_one (ps_ret (pe_dget1 (hu_of hr) (pv 4) (pv 2) ⟨rfl, rfl, rfl, rfl⟩)))), ?_⟩
    refine ⟨_, rfl, _, rfl, a, st, n, rfl, SA, k1, fun s v hs hv => ?_⟩
    obtain ⟨t, c, fv, rfl, ht, hc, _⟩ := hv
    refine ⟨t, _, rfl, ht, rfl, _, _, rfl, _, _, rfl, _, _, rfl, rfl, ?_⟩
    obtain ⟨kvs, hck, _⟩ := id hc
    refine ⟨_, rfl, c, rfl, .inl ⟨kvs, .inl hck⟩, _, rfl, ?_⟩
    exact cell_get hc fun o ho e => ⟨o, ho, by rw [e]; exact k2 s hs⟩
theorem scReadSnap : FnScope ["state", "namespace", "number", "place"] ["state", "namespace", "number", "place"] (defScope sReadSnap) := ⟨rfl, rfl, rfl, by decide +kernel, rfl, by decide +kernel, by decide +kernel⟩
theorem ok_readSnap (F : Fun K "read_snapshot" "read_snapshot" sReadSnap f fd) (NVx : NV K mg CN CS) (GW : Def P wd K mg base CX0 "is_whole" 1 ["value"] (spWhole K) fW fdW) : FnOk P wd K mg base (L2.CX P wd) 2 f fd ["state", "namespace", "number", "place"] (spReadSnap K CN) := by
  refine F.okX scReadSnap (fun vs H Q E h => ?_) (fun cdv A outer s H vs Q E hr h => ?_)
  · obtain ⟨a, st, n, m, p, rfl, _⟩ := h
    rfl
  · obtain ⟨a, st, n, m, p, rfl, SA, k1, k2⟩ := h
    have hr1 : Room 1 _ := hr
    refine ⟨_, (pss_cons (ps_if (PW.pt (pw_or (pt_not (pt_val (pe_call GW.ok hr1 (by rfl) GW.mg GW.kp GW.bd .nil pass0 (pa_cons (pv 1) pa_nil)))) (pw_or (pt_not (pt_val (pe_call GW.ok hr1 (by rfl) GW.mg GW.kp GW.bd .nil pass0 (pa_cons (pv 2) pa_nil)))) (pw_or1 (pt_cmp (pc_dnotin (hu_of hr) (pe_tup (pa_cons (pv 1) (pa_cons (pv 2) pa_nil))) (pe_dget (hu_of hr) (pv 0) pe_str (fun _ _ => rfl))))))))
      (pss_one (ps_notValid NVx rfl (takes_of rfl rfl rfl rfl) (by rfl))) pss_nil)
      (pss_one (ps_ret (pe_dget1 (hu_of hr) (pe_dget (hu_of hr) (pe_dget (hu_of hr) (pv 0) pe_str (fun _ _ => rfl)) (pe_tup (pa_cons (pv 1) (pa_cons (pv 2) pa_nil))) (fun _ _ => rfl)) (pv 3) ⟨rfl, rfl, rfl, rfl⟩)))), ?_⟩
    refine ⟨_, rfl, n, rfl, _, rfl, chooseF rfl ?_⟩
    refine ⟨_, rfl, m, rfl, _, rfl, chooseF rfl ?_⟩
    refine ⟨_, rfl, _, rfl, by show 2 ≤ sizeLine; decide, fun t ht => ?_⟩
    have s1 := same_new (o := .tup [V.int n, V.int m]) ht
    have e1 : (upd H t (.tup [V.int n, V.int m])) t = some (.tup [V.int n, V.int m]) := upd_same
    generalize upd H t (.tup [V.int n, V.int m]) = H1 at s1 e1
    obtain ⟨b1, b2, b3, ha, _, ⟨kvs, hk, pr, nd⟩, _⟩ := SA.same s1
    rcases pr_look (R := SnpAt K H1) eP_inj (k := (n, m)) pr with ⟨l0, hz⟩ | ⟨cs, z, l0, hz, az⟩
    · refine ⟨_, rfl, a, .ref b2, rfl, .inl ⟨_, .inr "snaps", .inl ha, rfl, rfl⟩, b2, none, rfl, .inr ⟨_, eP (n, m), t, .inl hk, rfl, e1, hz.symm⟩, _, rfl, chooseT rfl ?_⟩
      exact k1 l0 H1 s1
    · refine ⟨_, rfl, a, .ref b2, rfl, .inl ⟨_, .inr "snaps", .inl ha, rfl, rfl⟩, b2, some z, rfl, .inr ⟨_, eP (n, m), t, .inl hk, rfl, e1, hz.symm⟩, _, rfl, chooseF rfl ?_⟩
      refine ⟨_, rfl, a, .ref b2, rfl, .inl ⟨_, .inr "snaps", .inl ha, rfl, rfl⟩, _, rfl, _, rfl, by show 2 ≤ sizeLine; decide, fun t2 ht2 => ?_⟩
      have s2 := same_new (o := .tup [V.int n, V.int m]) ht2
      have e2 : (upd H1 t2 (.tup [V.int n, V.int m])) t2 = some (.tup [V.int n, V.int m]) := upd_same
      generalize upd H1 t2 (.tup [V.int n, V.int m]) = H2 at s2 e2
      obtain ⟨c, rfl, hc⟩ := az.same s2
      obtain ⟨kc, hkc, _⟩ := id hc
      refine ⟨b2, .ref c, rfl, .inr ⟨_, eP (n, m), t2, .inl (s2 _ _ hk), rfl, e2, hz.symm⟩, c, rfl, .inl ⟨kc, .inl hkc⟩, _, rfl, ?_⟩
      exact cell_get hc fun o ho e => ⟨o, ho, by rw [e]; exact k2 cs l0 H2 (s1.trans s2)⟩
end
end Sg

set_option Elab.async false
set_option linter.all false
set_option maxRecDepth 100000
set_option maxHeartbeats 4000000
namespace Sg.Fe
open PySem PySem.Spec PyProof.Rows L2
/-! ### what is kept -/
/-- lists and dicts alone were changed -/
theorem TK.off {xs : List Addr} {H H' : Hp} (o : Off xs H H') (h : ∀ x ∈ xs, (∃ l, H x = some (.lst l)) ∨ ∃ d, H x = some (.dK d)) : TK H H' := by
  refine ⟨fun a l e => o _ _ e fun m => ?_, fun a b l e => o _ _ e fun m => ?_⟩
  · rcases h a m with ⟨z, q⟩ | ⟨z, q⟩ <;> (rw [e] at q; cases q)
  · rcases h a m with ⟨z, q⟩ | ⟨z, q⟩ <;> (rw [e] at q; cases q)
theorem Paired.mapR {α β γ : Type} {F : α → β → Prop} {G : α → γ → Prop} {g : β → γ} (f : ∀ a b, F a b → G a (g b)) : ∀ {l : List α} {m : List β}, Paired F l m → Paired G l (m.map g)
  | _, _, .nil => .nil
  | _, _, .cons r t => .cons (f _ _ r) (Paired.mapR f t)
/-! ### keys -/
def kvsOf (ks : List (Int × Int)) : List (Key × V) := ks.map fun x => (Sum.inl x.1, V.int x.2)
def look (ks : List (Int × Int)) (h : Int) : Option Int := (ks.find? fun x => decide (x.1 = h)).map (·.2)
def optI : Option Int → V
  | none => .non
  | some i => .int i
def KNd (ks : List (Int × Int)) : Prop := (ks.map (·.1)).Nodup
theorem look_nil {h : Int} : look [] h = none := rfl
theorem look_pos {k v : Int} {ks : List (Int × Int)} : look ((k, v) :: ks) k = some v := by simp [look, List.find?_cons]
theorem look_neg {k v h : Int} {ks : List (Int × Int)} (e : ¬ k = h) : look ((k, v) :: ks) h = look ks h := by simp [look, List.find?_cons, e]
theorem val_look (h : Int) : ∀ ks : List (Int × Int), valV (kvsOf ks) (Sum.inl h) = (look ks h).map V.int
  | [] => rfl
  | (k, v) :: ks => by
    by_cases e : k = h
    · subst e
      rw [look_pos]
      exact valV_pos (p := (Sum.inl k, V.int v)) (r := kvsOf ks) rfl
    · rw [look_neg e, ← val_look h ks]
      exact valV_neg (p := (Sum.inl k, V.int v)) (r := kvsOf ks) (fun z => e (Sum.inl.inj z))
theorem val_opt (h : Int) (ks : List (Int × Int)) : (valV (kvsOf ks) (Sum.inl h)).getD .non = optI (look ks h) := by
  rw [val_look]
  cases look ks h <;> rfl
theorem put_new {kvs : List (Key × V)} {k : Key} {v : V} (h : valV kvs k = none) : putK kvs k v = kvs ++ [(k, v)] := by
  unfold putK
  rw [if_neg]
  rw [valV_any, h]
  exact Bool.false_ne_true
theorem merge_nd : ∀ (ks : List (Int × Int)) (acc : List (Key × V)), (∀ x ∈ ks, valV acc (Sum.inl x.1) = none) → KNd ks → mergeK acc (kvsOf ks) = acc ++ kvsOf ks
  | [], acc, _, _ => by simp [mergeK, kvsOf]
  | (k, v) :: ks, acc, h, nd => by
    have nd' : k ∉ ks.map (·.1) ∧ KNd ks := List.nodup_cons.mp nd
    have h0 : valV acc (Sum.inl k) = none := h (k, v) List.mem_cons_self
    show mergeK (putK acc (Sum.inl k) (.int v)) (kvsOf ks) = acc ++ (Sum.inl k, V.int v) :: kvsOf ks
    rw [put_new h0, merge_nd ks _ (fun x hx => ?_) nd'.2]
    · simp
    · rw [valV_snoc _ _ _ _ h0, if_neg]
      · exact h x (List.mem_cons_of_mem _ hx)
      · intro z
        exact nd'.1 (Sum.inl.inj z ▸ List.mem_map.mpr ⟨x, hx, rfl⟩)
theorem merge_nd0 {ks : List (Int × Int)} (nd : KNd ks) : mergeK [] (kvsOf ks) = kvsOf ks := merge_nd ks [] (fun _ _ => rfl) nd
/-! ### fences -/
def RegsAt (K : PySem.W.Frag) (H : Hp) (r : Addr) (rs : List (Int × Int)) : Prop := ∃ ps : List Addr, SqP K H r (ps.map V.ref) ∧ Paired (fun (p : Addr) (x : Int × Int) => SqT K H p [.int x.1, .int x.2]) ps rs
def HoldV (K : PySem.W.Frag) (H : Hp) (v : V) : Option (Int × Str) → Prop
  | none => v = .non
  | some (h, w) => ∃ q, v = .ref q ∧ SqT K H q [.int h, .str w] ∧ PyData.strOk w = true
def FenceAt (K : PySem.W.Frag) (H : Hp) (v : V) (rs : List (Int × Int)) (hd : Option (Int × Str)) : Prop := ∃ a r hv, v = .ref a ∧ SqT K H a [.ref r, hv] ∧ RegsAt K H r rs ∧ HoldV K H hv hd
section
variable {K : PySem.W.Frag} {H H' : Hp}
theorem RegsAt.tk {r : Addr} {rs : List (Int × Int)} (h : RegsAt K H r rs) (s : TK H H') : RegsAt K H' r rs := by
  obtain ⟨ps, a, b⟩ := h
  exact ⟨ps, a.tk s, Paired.imp2 (fun _ _ q => sqT_tk q s) b⟩
theorem HoldV.tk {v : V} {hd : Option (Int × Str)} (h : HoldV K H v hd) (s : TK H H') : HoldV K H' v hd := by
  cases hd with
  | none => exact h
  | some x => obtain ⟨q, a, b, c⟩ := h; exact ⟨q, a, sqT_tk b s, c⟩
theorem FenceAt.tk {v : V} {rs : List (Int × Int)} {hd : Option (Int × Str)} (h : FenceAt K H v rs hd) (s : TK H H') : FenceAt K H' v rs hd := by
  obtain ⟨a, r, hv, e, h1, h2, h3⟩ := h
  exact ⟨a, r, hv, e, sqT_tk h1 s, h2.tk s, h3.tk s⟩
end
/-! ### what is due -/
def wayV (hd : Option (Int × Str)) (h : Int) : V := match hd with
  | none => .non
  | some (g, w) => if g = h then .str w else .non
def strIn (s : Str) (ns : List Str) : Bool := ns.any fun y => decide (y = s)
theorem inV_str {s : Str} : ∀ {ns : List Str}, inV (.str s) (ns.map V.str) = strIn s ns
  | [] => rfl
  | n :: ns => by
    show (eqV (.str n) (.str s) || inV (.str s) (ns.map V.str)) = (decide (n = s) || strIn s ns)
    rw [inV_str (ns := ns)]
    rfl
theorem flat_strs : ∀ {ns : List Str}, (ns.map V.str).all flatV = true
  | [] => rfl
  | n :: ns => by rw [List.map_cons, List.all_cons, flat_strs (ns := ns)]; rfl
theorem str_eqT {x : Str} : decide (V.str x = V.str x) = true := decide_eq_true rfl
theorem str_eqF {x y : Str} (h : ¬ x = y) : decide (V.str x = V.str y) = false := decide_eq_false (fun z => h (by cases z; rfl))
abbrev readingL : List Str := ["read", "view"]
abbrev changingL : List Str := ["write", "trim", "snap", "drop", "remove"]
abbrev registeredL : List Str := ["leave", "reserve", "release", "preempt"]
/-- the key refuses -/
def keyBad (ks : List (Int × Int)) (h : Int) (key : Option Int) (word : Str) : Bool := match key with
  | some k => !decide (look ks h = some k)
  | none => if word = "register" then false else (look ks h).isSome || (!ks.isEmpty && !strIn word readingL)
/-- the reservation keeps out -/
def keepsOut (hd : Option (Int × Str)) (h : Int) (word : Str) : Bool := match hd with
  | none => false
  | some (g, w) => if g = h then false else strIn word changingL || (strIn word readingL && decide (w = "alone"))
abbrev namesL : List Str := ["write", "trim", "read", "snap", "view", "drop", "remove", "register", "leave", "reserve", "release", "preempt"]
/-- what a command has behind its name -/
structure CmdOk (word : Str) (rest : List V) : Prop where
  res : word = "reserve" → ∃ n w, rest = [.int n, .str w] ∧ PyData.strOk w = true
  pre : word = "preempt" → ∃ n v, rest = [.int n, .int v]
  rel : word = "release" → ∃ n, rest = [.int n]
  nm : strIn word namesL = true
def secS : List V → Str
  | [_, .str w] => w
  | _ => ""
def secI : List V → Int
  | [_, .int v] => v
  | _ => 0
def preDue (ks : List (Int × Int)) (h v : Int) : Str := if v = h then "conflict" else if look ks v = none then "none" else ""
def regDue (ks : List (Int × Int)) (hd : Option (Int × Str)) (h : Int) (word : Str) (rest : List V) : Str :=
  if look ks h = none then "conflict"
  else if word = "reserve" then (if hd = none ∨ hd = some (h, secS rest) then "" else "conflict")
  else if word = "release" then (if wayV hd h = .non then "conflict" else "")
  else if word = "preempt" then preDue ks h (secI rest)
  else ""
def due (ks : List (Int × Int)) (hd : Option (Int × Str)) (h : Int) (key : Option Int) (word : Str) (rest : List V) : Str :=
  if keyBad ks h key word || keepsOut hd h word then "conflict" else if strIn word registeredL then regDue ks hd h word rest else ""
def idle (ks : List (Int × Int)) (hd : Option (Int × Str)) (h : Int) (word : Str) (rest : List V) : Bool :=
  (decide (word = "register") && (look ks h).isSome) || (decide (word = "reserve") && decide (hd = some (h, secS rest)))
theorem due_congr {ks ls : List (Int × Int)} (e : ∀ h, look ks h = look ls h) (e2 : ks.isEmpty = ls.isEmpty) (hd h key word rest) : due ks hd h key word rest = due ls hd h key word rest := by
  unfold due regDue preDue keyBad
  simp only [e, e2]
theorem idle_congr {ks ls : List (Int × Int)} (e : ∀ h, look ks h = look ls h) (hd h word rest) : idle ks hd h word rest = idle ls hd h word rest := by
  unfold idle
  simp only [e]
end Sg.Fe

set_option Elab.async false
set_option linter.all false
set_option maxRecDepth 100000
set_option maxHeartbeats 4000000
namespace Sg.Fe
open PySem PySem.Spec PyProof.Rows L2
structure FX (K : PySem.W.Frag) (mg : Str → Option Value) (aR aC aO : Addr) : Prop where
  dict : mg "dict" = none
  len : mg "len" = none
  gR : mg "READING" = some (.ref aR)
  sR : ∀ H, SqT K H aR (readingL.map V.str)
  gC : mg "CHANGING" = some (.ref aC)
  sC : ∀ H, SqT K H aC (changingL.map V.str)
  gO : mg "OF_REGISTERED" = some (.ref aO)
  sO : ∀ H, SqT K H aO (registeredL.map V.str)
def spKeyOf (K : PySem.W.Frag) : Sp := fun vs H Q _ => ∃ fv h rs hd, vs = [fv, .int h] ∧ FenceAt K H fv rs hd ∧ KNd rs ∧ ∀ H', Same H H' → Q (optI (look rs h)) H'
def spWay (K : PySem.W.Frag) : Sp := fun vs H Q _ => ∃ fv h rs hd, vs = [fv, .int h] ∧ FenceAt K H fv rs hd ∧ Q (wayV hd h) H
def spKeyBad (K : PySem.W.Frag) : Sp := fun vs H Q _ => ∃ fv h key word rs hd, vs = [fv, .int h, optI key, .str word] ∧ FenceAt K H fv rs hd ∧ KNd rs ∧ ∀ H', Same H H' → Q (.bl (keyBad rs h key word)) H'
def spKeeps (K : PySem.W.Frag) : Sp := fun vs H Q _ => ∃ fv h word rs hd, vs = [fv, .int h, .str word] ∧ FenceAt K H fv rs hd ∧ Q (.bl (keepsOut hd h word)) H
def spPre (K : PySem.W.Frag) : Sp := fun vs H Q _ => ∃ fv h v rs hd, vs = [fv, .int h, .int v] ∧ FenceAt K H fv rs hd ∧ KNd rs ∧ ∀ H', Same H H' → Q (.str (preDue rs h v)) H'
def spReg (K : PySem.W.Frag) : Sp := fun vs H Q _ => ∃ fv h c word rest rs hd, vs = [fv, .int h, .ref c] ∧ FenceAt K H fv rs hd ∧ KNd rs ∧ SqT K H c (.str word :: rest) ∧ CmdOk word rest ∧ ∀ H', Same H H' → Q (.str (regDue rs hd h word rest)) H'
def spRefusal (K : PySem.W.Frag) : Sp := fun vs H Q _ => ∃ fv h key c word rest rs hd, vs = [fv, .int h, optI key, .ref c] ∧ FenceAt K H fv rs hd ∧ KNd rs ∧ SqT K H c (.str word :: rest) ∧ CmdOk word rest ∧ ∀ H', Same H H' → Q (.str (due rs hd h key word rest)) H'
def spNothing (K : PySem.W.Frag) : Sp := fun vs H Q _ => ∃ fv h c word rest rs hd, vs = [fv, .int h, .ref c] ∧ FenceAt K H fv rs hd ∧ KNd rs ∧ SqT K H c (.str word :: rest) ∧ CmdOk word rest ∧ ∀ H', Same H H' → Q (.bl (idle rs hd h word rest)) H'
theorem opt_non (o : Option Int) : decide (optI o = V.non) = o.isNone := by cases o <;> rfl
theorem opt_eq (a b : Option Int) : decide (optI a = optI b) = decide (a = b) := by
  cases a <;> cases b <;> simp [optI]
theorem opt_scal (a b : Option Int) : scal (optI a) (optI b) = true := by cases a <;> cases b <;> rfl
section
variable {P : Program} {wrl : World} {K : PySem.W.Frag} {mg : Str → Option Value} {base : Heap} {f aR aC aO fK fW fB fO fG fP : Addr} {fd fdK fdW fdB fdO fdG fdP : FuncData}
theorem scKeyOf : FnScope ["fence", "host", "registrations", "_"] ["fence", "host"] (defScope sKeyOf) := ⟨rfl, rfl, rfl, by decide +kernel, rfl, by decide +kernel, by decide +kernel⟩
theorem ok_keyOf (F : Fun K "key_of" "key_of" sKeyOf f fd) (B : FX K mg aR aC aO) : FnOk P wrl K mg base CX0 1 f fd ["fence", "host"] (spKeyOf K) := by
  refine F.ok scKeyOf (fun vs H Q E h => ?_) (fun cdv A outer s H vs Q E hr h => ?_)
  · obtain ⟨fv, h, rs, hd, rfl, _⟩ := h
    rfl
  · obtain ⟨fv, h, rs, hd, rfl, ⟨a, r, hv, rfl, h1, ⟨ps, h2, h3⟩, h4⟩, nd, q⟩ := h
    refine ⟨_, pss_cons (ps_asg (pv 0) (pg_tup (by rfl) (pgs_cons (pg_name (i := 2) scKeyOf.nd rfl (Or.inl rfl)) (pgs_cons (pg_name (i := 3) scKeyOf.nd rfl (Or.inl rfl)) L2.pgs_nil))))
      (pss_one (ps_ret (pe_dget1 (hu_of hr) (pe_callTy (call_dictT rfl) (by rfl) B.dict (by decide +kernel) (pa_cons (pv 2) pa_nil)) (pv 1) ⟨rfl, rfl, rfl, rfl⟩))), ?_⟩
    refine ⟨_, rfl, a, _, rfl, h1, rfl, _, _, rfl, _, _, rfl, rfl, ?_⟩
    refine ⟨_, rfl, r, ps, kvsOf rs, rfl, h2, Paired.mapR (g := fun (x : Int × Int) => ((Sum.inl x.1 : Key), V.int x.2)) (fun _ _ q => q) h3, fun p hp => ?_⟩
    rw [merge_nd0 nd]
    refine ⟨p, rfl, .inl ⟨_, .inl upd_same⟩, _, rfl, _, DGet.k (k := Sum.inl h) upd_same, ?_⟩
    rw [val_opt]
    exact q _ (same_new hp)
theorem scHolderWay : FnScope ["fence", "host", "_", "reservation"] ["fence", "host"] (defScope sHolderWay) := ⟨rfl, rfl, rfl, by decide +kernel, rfl, by decide +kernel, by decide +kernel⟩
theorem ok_holderWay (F : Fun K "holder_way" "holder_way" sHolderWay f fd) : FnOk P wrl K mg base CX0 1 f fd ["fence", "host"] (spWay K) := by
  refine F.ok scHolderWay (fun vs H Q E h => ?_) (fun cdv A outer s H vs Q E hr h => ?_)
  · obtain ⟨fv, h, rs, hd, rfl, _⟩ := h
    rfl
  · obtain ⟨fv, h, rs, hd, rfl, ⟨a, r, hv, rfl, h1, _, h4⟩, q⟩ := h
    refine ⟨_, pss_cons (ps_asg (pv 0) (pg_tup (by rfl) (pgs_cons (pg_name (i := 2) scHolderWay.nd rfl (Or.inl rfl)) (pgs_cons (pg_name (i := 3) scHolderWay.nd rfl (Or.inl rfl)) L2.pgs_nil))))
      (pss_cons (ps_if (PW.pt (pw_or (pt_cmpR op_isN (pv 3) pe_non (nomark _)) (pw_or1 (pt_cmpR op_ne (pe_ix ix_tup (pv 3) pe_int (fun _ _ => rfl)) (pv 1) (nomark _))))) (pss_one (ps_ret pe_non)) pss_nil)
      (pss_one (ps_ret (pe_ix ix_tup (pv 3) pe_int (fun _ _ => rfl))))), ?_⟩
    refine ⟨_, rfl, a, _, rfl, h1, rfl, _, _, rfl, _, _, rfl, rfl, ?_⟩
    refine ⟨_, rfl, rfl, _, rfl, ?_⟩
    cases hd with
    | none =>
      cases (show hv = .non from h4)
      exact iteT (iteT q)
    | some x =>
      obtain ⟨g, w⟩ := x
      obtain ⟨t, rfl, ht, _⟩ := (show ∃ q, hv = .ref q ∧ SqT K H q [.int g, .str w] ∧ PyData.strOk w = true from h4)
      refine iteF ⟨_, rfl, t, _, _, _, rfl, rfl, ht, atI_nat (j := 0) rfl, _, rfl, rfl, _, rfl, ?_⟩
      have q' : Q (if g = h then .str w else .non) H := q
      by_cases e : g = h
      · subst e
        rw [if_pos rfl] at q'
        rw [decide_eq_true rfl]
        exact iteF ⟨_, rfl, t, _, _, _, rfl, rfl, ht, atI_nat (j := 1) rfl, q'⟩
      · rw [if_neg e] at q'
        rw [decide_eq_false (show ¬ V.int g = V.int h from fun z => e (by injection z))]
        exact iteT q'
theorem scRefusesKey : FnScope ["fence", "host", "key", "word", "present", "registrations", "_"] ["fence", "host", "key", "word"] (defScope sRefusesKey) := ⟨rfl, rfl, rfl, by decide +kernel, rfl, by decide +kernel, by decide +kernel⟩
theorem ok_refusesKey (F : Fun K "_refuses_key" "_refuses_key" sRefusesKey f fd) (B : FX K mg aR aC aO) (GK : Def P wrl K mg base CX0 "key_of" 1 ["fence", "host"] (spKeyOf K) fK fdK) : FnOk P wrl K mg base CX0 2 f fd ["fence", "host", "key", "word"] (spKeyBad K) := by
  refine F.ok scRefusesKey (fun vs H Q E h => ?_) (fun cdv A outer s H vs Q E hr h => ?_)
  · obtain ⟨fv, h, key, word, rs, hd, rfl, _⟩ := h
    rfl
  · obtain ⟨fv, h, key, word, rs, hd, rfl, FA, nd, q⟩ := h
    refine ⟨_, pss_cons (ps_set (i := 4) scRefusesKey.nd rfl (Or.inl rfl) (pe_call GK.ok hr (by rfl) GK.mg GK.kp GK.bd .nil pass0 (pa_cons (pv 0) (pa_cons (pv 1) pa_nil))))
      (pss_cons (ps_if (pt_cmpR op_notN (pv 2) pe_non (nomark _)) (pss_one (ps_ret (pe_cmpR op_ne (pv 2) (pv 4) (nomark _)))) pss_nil)
      (pss_cons (ps_if (pt_cmpR op_eq (pv 3) pe_str (nomark _)) (pss_one (ps_ret pe_bl)) pss_nil)
      (pss_cons (ps_asg (pv 0) (pg_tup (by rfl) (pgs_cons (pg_name (i := 5) scRefusesKey.nd rfl (Or.inl rfl)) (pgs_cons (pg_name (i := 6) scRefusesKey.nd rfl (Or.inl rfl)) L2.pgs_nil))))
      (pss_one (ps_ret (pe_or (pe_cmpR op_notN (pv 4) pe_non (nomark _)) (pe_one (pe_and (pe_cmpR op_gt (pe_callB call_len_seq (by rfl) B.len PySem.boot_len (pa_cons (pv 5) pa_nil)) pe_int (nomark _)) (pe_one (pe_cmpR op_notIn_seq (pv 3) (pe_glob (v := .ref aR) (by rfl) B.gR rfl) (by rfl))))))))))), ?_⟩
    refine ⟨_, rfl, _, rfl, fv, h, rs, hd, rfl, FA, nd, fun H1 s1 => ?_⟩
    refine ⟨_, rfl, rfl, _, rfl, ?_⟩
    have q1 := q H1 s1
    cases key with
    | some k =>
      refine iteT ⟨_, rfl, _, rfl, opt_scal (some k) (look rs h), ?_⟩
      have e : (!decide (optI (some k) = optI (look rs h))) = keyBad rs h (some k) word := by
        rw [opt_eq]
        show _ = !decide (look rs h = some k)
        rw [Bool.not_inj_iff.mpr]
        by_cases z : some k = look rs h
        · rw [decide_eq_true z, decide_eq_true z.symm]
        · rw [decide_eq_false z, decide_eq_false (fun y => z y.symm)]
      rw [e]
      exact q1
    | none =>
      refine iteF ⟨_, rfl, rfl, _, rfl, ?_⟩
      have q2 : Q (.bl (if word = "register" then false else (look rs h).isSome || (!rs.isEmpty && !strIn word readingL))) H1 := q1
      by_cases ew : word = "register"
      · subst ew
        rw [if_pos rfl] at q2
        rw [str_eqT]
        exact iteT q2
      · rw [if_neg ew] at q2
        rw [str_eqF ew]
        refine iteF ?_
        obtain ⟨a, r, hv, rfl, h1, ⟨ps, h2, h3⟩, h4⟩ := FA.tk (TK.of s1)
        refine ⟨_, rfl, a, _, rfl, h1, rfl, _, _, rfl, _, _, rfl, rfl, ?_⟩
        refine ⟨_, rfl, rfl, _, rfl, ?_⟩
        rw [opt_non]
        cases hl : look rs h with
        | some k =>
          rw [hl] at q2
          exact iteT q2
        | none =>
          rw [hl] at q2
          refine iteF ⟨_, rfl, r, _, rfl, .inr h2.t, _, _, rfl, rfl, _, rfl, ?_⟩
          have hlen : ps.length = rs.length := h3.length
          have q3 : Q (.bl (!rs.isEmpty && !strIn word readingL)) H1 := q2
          have e1 : decide ((((ps.map V.ref).length : Nat) : Int) > 0) = !rs.isEmpty := by
            rw [List.length_map, hlen]
            cases rs with
            | nil => rfl
            | cons x l => exact decide_eq_true (by simp only [List.length_cons]; omega)
          rw [e1]
          cases hem : rs.isEmpty with
          | true =>
            rw [hem] at q3
            exact iteF q3
          | false =>
            rw [hem] at q3
            refine iteT ⟨_, rfl, aR, _, rfl, .inr (B.sR H1), rfl, flat_strs, ?_⟩
            have e : inV (.str word) (readingL.map V.str) = strIn word readingL := inV_str
            rw [e]
            exact q3
theorem scKeepsOut : FnScope ["fence", "host", "word", "_", "reservation"] ["fence", "host", "word"] (defScope sKeepsOut) := ⟨rfl, rfl, rfl, by decide +kernel, rfl, by decide +kernel, by decide +kernel⟩
theorem ok_keepsOut (F : Fun K "_keeps_out" "_keeps_out" sKeepsOut f fd) (B : FX K mg aR aC aO) : FnOk P wrl K mg base CX0 1 f fd ["fence", "host", "word"] (spKeeps K) := by
  refine F.ok scKeepsOut (fun vs H Q E h => ?_) (fun cdv A outer s H vs Q E hr h => ?_)
  · obtain ⟨fv, h, word, rs, hd, rfl, _⟩ := h
    rfl
  · obtain ⟨fv, h, word, rs, hd, rfl, ⟨a, r, hv, rfl, h1, _, h4⟩, q⟩ := h
    refine ⟨_, pss_cons (ps_asg (pv 0) (pg_tup (by rfl) (pgs_cons (pg_name (i := 3) scKeepsOut.nd rfl (Or.inl rfl)) (pgs_cons (pg_name (i := 4) scKeepsOut.nd rfl (Or.inl rfl)) L2.pgs_nil))))
      (pss_cons (ps_if (PW.pt (pw_or (pt_cmpR op_isN (pv 4) pe_non (nomark _)) (pw_or1 (pt_cmpR op_eq (pe_ix ix_tup (pv 4) pe_int (fun _ _ => rfl)) (pv 1) (nomark _))))) (pss_one (ps_ret pe_bl)) pss_nil)
      (pss_one (ps_ret (pe_or (pe_cmpR op_in_seq (pv 2) (pe_glob (v := .ref aC) (by rfl) B.gC rfl) (by rfl)) (pe_one (pe_and (pe_cmpR op_in_seq (pv 2) (pe_glob (v := .ref aR) (by rfl) B.gR rfl) (by rfl)) (pe_one (pe_cmpR op_eq (pe_ix ix_tup (pv 4) pe_int (fun _ _ => rfl)) pe_str (nomark _))))))))), ?_⟩
    refine ⟨_, rfl, a, _, rfl, h1, rfl, _, _, rfl, _, _, rfl, rfl, ?_⟩
    refine ⟨_, rfl, rfl, _, rfl, ?_⟩
    cases hd with
    | none =>
      cases (show hv = .non from h4)
      exact iteT (iteT q)
    | some x =>
      obtain ⟨g, w⟩ := x
      obtain ⟨t, rfl, ht, _⟩ := (show ∃ q, hv = .ref q ∧ SqT K H q [.int g, .str w] ∧ PyData.strOk w = true from h4)
      refine iteF ⟨_, rfl, t, _, _, _, rfl, rfl, ht, atI_nat (j := 0) rfl, _, rfl, rfl, _, rfl, ?_⟩
      have q' : Q (.bl (if g = h then false else strIn word changingL || (strIn word readingL && decide (w = "alone")))) H := q
      by_cases e : g = h
      · subst e
        rw [if_pos rfl] at q'
        rw [decide_eq_true rfl]
        exact iteT q'
      · rw [if_neg e] at q'
        rw [decide_eq_false (show ¬ V.int g = V.int h from fun z => e (by injection z))]
        refine iteF ?_
        have e1 : inV (.str word) (changingL.map V.str) = strIn word changingL := inV_str
        have e2 : inV (.str word) (readingL.map V.str) = strIn word readingL := inV_str
        refine ⟨_, rfl, aC, _, rfl, .inr (B.sC H), rfl, flat_strs, _, rfl, ?_⟩
        rw [e1]
        cases b1 : strIn word changingL with
        | true => rw [b1] at q'; exact iteT q'
        | false =>
          rw [b1] at q'
          refine iteF ⟨_, rfl, aR, _, rfl, .inr (B.sR H), rfl, flat_strs, _, rfl, ?_⟩
          rw [e2]
          cases b2 : strIn word readingL with
          | false => rw [b2] at q'; exact iteF q'
          | true =>
            rw [b2] at q'
            refine iteT ⟨_, rfl, t, _, _, _, rfl, rfl, ht, atI_nat (j := 1) rfl, rfl, ?_⟩
            have q3 : Q (.bl (decide (w = "alone"))) H := q'
            by_cases ew : w = "alone"
            · subst ew
              rw [str_eqT]
              rw [decide_eq_true rfl] at q3
              exact q3
            · rw [str_eqF ew]
              rw [decide_eq_false ew] at q3
              exact q3
end
end Sg.Fe

set_option Elab.async false
set_option linter.all false
set_option maxRecDepth 100000
set_option maxHeartbeats 4000000
namespace Sg.Fe
open PySem PySem.Spec PyProof.Rows L2
theorem hu65 {k : Nat} {A : Around} (hr : Room k A) : A.units + 65 < cLine := by have := hr.un; omega
def holdD : Option (Int × Str) → PyData
  | none => .none
  | some (h, w) => .tuple [.int h, .str w]
theorem HoldV.dp {K : PySem.W.Frag} {H : Hp} {v : V} {hd : Option (Int × Str)} (h : HoldV K H v hd) : Dp K H v (holdD hd) := by
  cases hd with
  | none => cases (show v = .non from h); exact .non
  | some x =>
    obtain ⟨q, rfl, hq, _⟩ := h
    exact .tup hq (.cons (.int _) (.cons (.str _) .nil))
def hdOk : Option (Int × Str) → Prop
  | none => True
  | some x => PyData.strOk x.2 = true
theorem HoldV.sok {K : PySem.W.Frag} {H : Hp} {v : V} {hd : Option (Int × Str)} (h : HoldV K H v hd) : hdOk hd := by
  cases hd with
  | none => trivial
  | some x => obtain ⟨q, _, _, h⟩ := h; exact h
theorem hold_shaped {hd : Option (Int × Str)} (ok : hdOk hd) : SeqAt.shaped (holdD hd) = true := by
  cases hd with
  | none => rfl
  | some x => show ((holdD (some x)).canLay0 && decide ((holdD (some x)).depth ≤ 64)) = true; simp [holdD, PyData.canLay0, PyData.canLayAll0, PyData.depth, PyData.depthAll]; exact ok
theorem eqv_pair (a c : Int) (b d : Str) : PyData.eqv (.tuple [.int a, .str b]) (.tuple [.int c, .str d]) = decide ((a, b) = (c, d)) := by
  have e : PyData.eqv (.tuple [.int a, .str b]) (.tuple [.int c, .str d]) = ((a == c) && ((b == d) && true)) := by simp only [PyData.eqv, PyData.eqvAll]
  rw [e, Bool.eq_iff_iff]
  simp
theorem hold_eqv (x y : Option (Int × Str)) : PyData.eqv (holdD x) (holdD y) = decide (x = y) := by
  cases x with
  | none => cases y with
    | none => simp [holdD, PyData.eqv]
    | some y => simp [holdD, PyData.eqv]
  | some x => cases y with
    | none => simp [holdD, PyData.eqv]
    | some y =>
      obtain ⟨a, b⟩ := x
      obtain ⟨c, d⟩ := y
      rw [show PyData.eqv (holdD (some (a, b))) (holdD (some (c, d))) = _ from eqv_pair a c b d]; simp
section
variable {P : Program} {wrl : World} {K : PySem.W.Frag} {mg : Str → Option Value} {base : Heap} {f aR aC aO fK fW fB fO fG fP : Addr} {fd fdK fdW fdB fdO fdG fdP : FuncData}
theorem scRefPre : FnScope ["fence", "host", "victim"] ["fence", "host", "victim"] (defScope sRefPre) := ⟨rfl, rfl, rfl, by decide +kernel, rfl, by decide +kernel, by decide +kernel⟩
theorem ok_refPre (F : Fun K "_refusal_of_preempt" "_refusal_of_preempt" sRefPre f fd) (GK : Def P wrl K mg base CX0 "key_of" 1 ["fence", "host"] (spKeyOf K) fK fdK) : FnOk P wrl K mg base CX0 2 f fd ["fence", "host", "victim"] (spPre K) := by
  refine F.ok scRefPre (fun vs H Q E h => ?_) (fun cdv A outer s H vs Q E hr h => ?_)
  · obtain ⟨fv, h, v, rs, hd, rfl, _⟩ := h
    rfl
  · obtain ⟨fv, h, v, rs, hd, rfl, FA, nd, q⟩ := h
    refine ⟨_, pss_cons (ps_if (pt_cmpR op_eq (pv 2) (pv 1) (nomark _)) (pss_one (ps_ret pe_str)) pss_nil)
      (pss_one (ps_ret (pe_ifExp (pt_cmpR op_isN (pe_call GK.ok hr (by rfl) GK.mg GK.kp GK.bd .nil pass0 (pa_cons (pv 0) (pa_cons (pv 2) pa_nil))) pe_non (nomark _)) pe_str pe_str))), ?_⟩
    refine ⟨_, rfl, _, rfl, rfl, _, rfl, ?_⟩
    by_cases e : v = h
    · subst e
      rw [decide_eq_true rfl]
      have := q H (Same.refl H)
      rw [show preDue rs v v = "conflict" from if_pos rfl] at this
      exact iteT this
    · rw [decide_eq_false (show ¬ V.int v = V.int h from fun z => e (by injection z))]
      refine iteF ⟨_, rfl, _, rfl, fv, v, rs, hd, rfl, FA, nd, fun H1 s1 => ⟨rfl, _, rfl, ?_⟩⟩
      have q1 := q H1 s1
      unfold preDue at q1
      rw [if_neg e] at q1
      rw [opt_non]
      cases hl : look rs v with
      | none =>
        rw [if_pos hl] at q1
        exact iteT q1
      | some k =>
        rw [if_neg (by rw [hl]; exact fun z => nomatch z)] at q1
        exact iteF q1
theorem scRefReg : FnScope ["fence", "host", "command", "_", "reservation", "way", "victim"] ["fence", "host", "command"] (defScope sRefReg) := ⟨rfl, rfl, rfl, by decide +kernel, rfl, by decide +kernel, by decide +kernel⟩
theorem ok_refReg (F : Fun K "_refusal_of_registered" "_refusal_of_registered" sRefReg f fd) (GK : Def P wrl K mg base CX0 "key_of" 1 ["fence", "host"] (spKeyOf K) fK fdK) (GW : Def P wrl K mg base CX0 "holder_way" 1 ["fence", "host"] (spWay K) fW fdW)
    (GP : Def P wrl K mg base CX0 "_refusal_of_preempt" 2 ["fence", "host", "victim"] (spPre K) fP fdP) : FnOk P wrl K mg base CX0 3 f fd ["fence", "host", "command"] (spReg K) := by
  refine F.ok scRefReg (fun vs H Q E h => ?_) (fun cdv A outer s H vs Q E hr h => ?_)
  · obtain ⟨fv, h, c, word, rest, rs, hd, rfl, _⟩ := h
    rfl
  · obtain ⟨fv, h, c, word, rest, rs, hd, rfl, FA, nd, hc, ok, q⟩ := h
    have hr1 : Room 1 _ := hr.mono (by decide)
    refine ⟨_, pss_cons (ps_asg (pv 0) (pg_tup (by rfl) (pgs_cons (pg_name (i := 3) scRefReg.nd rfl (Or.inl rfl)) (pgs_cons (pg_name (i := 4) scRefReg.nd rfl (Or.inl rfl)) L2.pgs_nil))))
      (pss_cons (ps_if (pt_cmpR op_isN (pe_call GK.ok hr1 (by rfl) GK.mg GK.kp GK.bd .nil pass0 (pa_cons (pv 0) (pa_cons (pv 1) pa_nil))) pe_non (nomark _)) (pss_one (ps_ret pe_str)) pss_nil)
      (pss_cons (ps_match (pv 2)
          (pcs_cons scRefReg.nd (mp_seq (n := 3) rfl (mps_cons mp_str (mps_cons mp_wild (mps_cons (mp_cap (i := 5) rfl (Or.inl rfl)) mps_nil))))
            (pss_one (ps_ret (pe_ifExp (pt_cmpR (op_inT (hu65 hr)) (pv 4) (pe_tup (pa_cons pe_non (pa_cons (pe_tup (pa_cons (pv 1) (pa_cons (pv 5) pa_nil))) pa_nil))) (by rfl)) pe_str pe_str)))
          (pcs_cons scRefReg.nd (mp_seq (n := 2) rfl (mps_cons mp_str (mps_cons mp_wild mps_nil)))
            (pss_one (ps_ret (pe_ifExp (pt_cmpR op_isN (pe_call GW.ok hr1 (by rfl) GW.mg GW.kp GW.bd .nil pass0 (pa_cons (pv 0) (pa_cons (pv 1) pa_nil))) pe_non (nomark _)) pe_str pe_str)))
          (pcs_cons scRefReg.nd (mp_seq (n := 3) rfl (mps_cons mp_str (mps_cons mp_wild (mps_cons (mp_cap (i := 6) rfl (Or.inl rfl)) mps_nil))))
            (pss_one (ps_ret (pe_call GP.ok hr (by rfl) GP.mg GP.kp GP.bd .nil pass0 (pa_cons (pv 0) (pa_cons (pv 1) (pa_cons (pv 6) pa_nil))))))
          pcs_nil))))
      (pss_one (ps_ret pe_str)))), ?_⟩
    have FA0 := FA
    obtain ⟨a, r, hv, rfl, h1, h2, h4⟩ := FA
    refine ⟨_, rfl, a, _, rfl, h1, rfl, _, _, rfl, _, _, rfl, rfl, ?_⟩
    refine ⟨_, rfl, _, rfl, _, h, rs, hd, rfl, FA0, nd, fun H1 s1 => ⟨rfl, _, rfl, ?_⟩⟩
    rw [opt_non]
    have FA1 := FA0.tk (TK.of s1)
    have hc1 := sqT_tk hc (TK.of s1)
    have h41 := h4.tk (TK.of s1)
    have q1 : ∀ H', Same H1 H' → Q (.str (regDue rs hd h word rest)) H' := fun H' s' => q H' (s1.trans s')
    unfold regDue at q1
    cases hl : look rs h with
    | none =>
      rw [if_pos hl] at q1
      exact iteT (q1 H1 (Same.refl H1))
    | some k =>
      rw [if_neg (by rw [hl]; exact fun z => nomatch z)] at q1
      refine iteF ⟨_, rfl, c, _, rfl, hc1, fun hlen => ?_, fun hlen => ?_⟩
      · refine ⟨_, _, rfl, word, rfl, ?_⟩
        by_cases e1 : word = "reserve"
        · rw [if_pos e1]
          rw [if_pos e1] at q1
          obtain ⟨n, w, rfl, wok⟩ := ok.res e1
          refine ⟨_, _, rfl, _, _, rfl, ?_⟩
          refine ⟨_, rfl, _, rfl, _, rfl, by show 2 ≤ sizeLine; decide, fun t1 ht1 => ⟨by show 2 ≤ sizeLine; decide, fun t2 ht2 => ?_⟩⟩
          have s2 := same_new (o := .tup [V.int h, V.str w]) ht1
          have s3 := s2.trans (same_new (o := .tup [V.non, V.ref t1]) ht2)
          have hd3 := (h41.tk (TK.of s3)).dp
          refine ⟨_, _, hd3, .tup (SqT.of upd_same) (.cons .non (.cons (.tup (SqT.of ((same_new (o := .tup [V.non, V.ref t1]) ht2) _ _ upd_same)) (.cons (.int _) (.cons (.str _) .nil))) .nil)), hold_shaped h4.sok, ?_, _, rfl, ?_⟩
          · show ((PyData.tuple [.none, .tuple [.int h, .str w]]).canLay0 && decide ((PyData.tuple [.none, .tuple [.int h, .str w]]).depth ≤ 64)) = true
            simp [PyData.canLay0, PyData.canLayAll0, PyData.depth, PyData.depthAll]; exact wok
          have ee : ([PyData.none, PyData.tuple [.int h, .str w]].any fun z => PyData.eqv z (holdD hd)) = decide (hd = none ∨ hd = some (h, w)) := by
            show (PyData.eqv (holdD none) (holdD hd) || (PyData.eqv (holdD (some (h, w))) (holdD hd) || false)) = _
            rw [hold_eqv, hold_eqv, Bool.eq_iff_iff]
            simp
            constructor
            · rintro (z | z)
              · exact .inl z.symm
              · exact .inr z.symm
            · rintro (z | z)
              · exact .inl z.symm
              · exact .inr z.symm
          rw [ee]
          have q3 := q1 _ s3
          by_cases z : hd = none ∨ hd = some (h, w)
          · rw [decide_eq_true z]
            rw [if_pos (by exact z)] at q3
            exact iteT q3
          · rw [decide_eq_false z]
            rw [if_neg (by exact z)] at q3
            exact iteF q3
        · rw [if_neg e1]
          rw [if_neg e1] at q1
          show cCons _ _ _ _ _ _ _
          refine ⟨c, _, rfl, hc1, fun hl2 => absurd (hl2.symm.trans hlen) (by decide), fun _ => ⟨c, _, rfl, hc1, fun _ => ⟨_, _, rfl, word, rfl, ?_⟩, fun z => absurd hlen z⟩⟩
          by_cases e2 : word = "release"
          · obtain ⟨n, rfl⟩ := ok.rel e2
            exact absurd (show (2 : Nat) = 3 from hlen) (by decide)
          rw [if_neg e2] at q1
          by_cases e3 : word = "preempt"
          · rw [if_pos e3]
            rw [if_pos e3] at q1
            obtain ⟨n, v, rfl⟩ := ok.pre e3
            refine ⟨_, _, rfl, _, _, rfl, ?_⟩
            exact ⟨_, rfl, _, rfl, _, rfl, _, h, v, rs, hd, rfl, FA1, nd, fun H' s' => q1 H' s'⟩
          · rw [if_neg e3]
            rw [if_neg e3] at q1
            exact q1 H1 (Same.refl H1)
      · have e1 : ¬ word = "reserve" := fun e => by
          obtain ⟨n, w, rfl, _⟩ := ok.res e
          exact hlen rfl
        have e3 : ¬ word = "preempt" := fun e => by
          obtain ⟨n, w, rfl⟩ := ok.pre e
          exact hlen rfl
        rw [if_neg e1] at q1
        show cCons _ _ _ _ _ _ _
        refine ⟨c, _, rfl, hc1, fun hl2 => ⟨_, _, rfl, word, rfl, ?_⟩, fun hl2 => ⟨c, _, rfl, hc1, fun z => absurd z hlen, fun _ => ?_⟩⟩
        · by_cases e2 : word = "release"
          · rw [if_pos e2]
            rw [if_pos e2] at q1
            obtain ⟨n, rfl⟩ := ok.rel e2
            refine ⟨_, _, rfl, ?_⟩
            refine ⟨_, rfl, _, rfl, _, h, rs, hd, rfl, FA1, rfl, _, rfl, ?_⟩
            have q3 := q1 H1 (Same.refl H1)
            by_cases z : wayV hd h = .non
            · rw [if_pos z] at q3
              rw [decide_eq_true z]
              exact iteT q3
            · rw [if_neg z] at q3
              rw [decide_eq_false z]
              exact iteF q3
          · rw [if_neg e2]
            rw [if_neg e2, if_neg e3] at q1
            show cCons _ _ _ _ _ _ _
            exact ⟨c, _, rfl, hc1, fun z => absurd z hlen, fun _ => q1 H1 (Same.refl H1)⟩
        · have e2 : ¬ word = "release" := fun e => by
            obtain ⟨n, rfl⟩ := ok.rel e
            exact hl2 rfl
          rw [if_neg e2, if_neg e3] at q1
          exact q1 H1 (Same.refl H1)
end
end Sg.Fe

set_option Elab.async false
set_option linter.all false
set_option maxRecDepth 100000
set_option maxHeartbeats 4000000
namespace Sg.Fe
open PySem PySem.Spec PyProof.Rows L2
/-- an if whose test has the answer b, whatever the way -/
theorem ifS {c : TT} {t u : TS} {D : Ends} {σ : L2.St} {H : Hp} (b : Bool) (h : ∀ Q : Bool → Hp → Prop, (∀ H', Same H H' → Q b H') → c σ H Q) (ht : b = true → ∀ H', Same H H' → t D σ H') (hf : b = false → ∀ H', Same H H' → u D σ H') : tIfS c t u D σ H := by
  refine h _ fun H' s' => ?_
  cases b with
  | true => exact iteT (ht rfl H' s')
  | false => exact iteF (hf rfl H' s')
theorem ifSq {c : TT} {t u r : TS} {D : Ends} {σ : L2.St} {H : Hp} (b : Bool) (h : ∀ Q : Bool → Hp → Prop, (∀ H', Same H H' → Q b H') → c σ H Q) (ht : b = true → ∀ H', Same H H' → t { D with nx := r D } σ H') (hf : b = false → ∀ H', Same H H' → u { D with nx := r D } σ H') : tSeq (tIfS c t u) r D σ H := ifS b h ht hf
theorem ifSn {c : TT} {t r : TS} {D : Ends} {σ : L2.St} {H : Hp} (b : Bool) (h : ∀ Q : Bool → Hp → Prop, (∀ H', Same H H' → Q b H') → c σ H Q) (ht : b = true → ∀ H', Same H H' → t { D with nx := r D } σ H') (hf : b = false → ∀ H', Same H H' → r D σ H') : tSeq (tIfS c t tNext) r D σ H := ifS b h ht hf
theorem asgSq {te : TE} {g : TG} {r : TS} {D : Ends} {σ : L2.St} {H : Hp} (v : V) (h : ∀ Q : VK, (∀ H', Same H H' → Q v H') → te σ H Q) (k : ∀ H', Same H H' → g v σ H' (r D)) : tSeq (tAsg te g) r D σ H := h _ k
theorem stSet {te : TE} {i : Nat} {r : TS} {D : Ends} {σ : L2.St} {H : Hp} (v : V) (h : ∀ Q : VK, (∀ H', Same H H' → Q v H') → te σ H Q) (k : ∀ H', Same H H' → r D (σ.set i (some v)) H') : tSeq (tAsg te (gName i)) r D σ H := h _ k
theorem stSet0 {te : TE} {i : Nat} {r : TS} {D : Ends} {σ : L2.St} {H : Hp} (v : V) (h : ∀ Q : VK, Q v H → te σ H Q) (k : r D (σ.set i (some v)) H) : tSeq (tAsg te (gName i)) r D σ H := h _ k
theorem asgS {te : TE} {g : TG} {D : Ends} {σ : L2.St} {H : Hp} (v : V) (h : ∀ Q : VK, (∀ H', Same H H' → Q v H') → te σ H Q) (k : ∀ H', Same H H' → g v σ H' D.nx) : tAsg te g D σ H := h _ k
theorem hold_way {hd : Option (Int × Str)} {h : Int} {w : Str} : decide (wayV hd h = V.str w) = decide (hd = some (h, w)) := by
  cases hd with
  | none => rfl
  | some x =>
    obtain ⟨g, y⟩ := x
    show decide ((if g = h then V.str y else V.non) = V.str w) = _
    by_cases e : g = h
    · subst e
      rw [if_pos rfl]
      by_cases z : y = w
      · subst z; rw [decide_eq_true rfl, decide_eq_true rfl]
      · rw [str_eqF z, decide_eq_false (fun q => z (by cases q; rfl))]
    · rw [if_neg e, decide_eq_false (fun q => nomatch q), decide_eq_false (fun q => e (by cases q; rfl))]
theorem way_scal {hd : Option (Int × Str)} {h : Int} {w : Str} : scal (wayV hd h) (V.str w) = true := by
  cases hd with
  | none => rfl
  | some x =>
    obtain ⟨g, y⟩ := x
    show scal (if g = h then V.str y else V.non) (V.str w) = true
    by_cases e : g = h
    · rw [if_pos e]; rfl
    · rw [if_neg e]; rfl
section
variable {P : Program} {wrl : World} {K : PySem.W.Frag} {mg : Str → Option Value} {base : Heap} {f aR aC aO fK fW fB fO fG fP : Addr} {fd fdK fdW fdB fdO fdG fdP : FuncData}
theorem scRefusal : FnScope ["fence", "host", "key", "command", "word"] ["fence", "host", "key", "command"] (defScope sRefusal) := ⟨rfl, rfl, rfl, by decide +kernel, rfl, by decide +kernel, by decide +kernel⟩
theorem ok_refusal (F : Fun K "refusal" "refusal" sRefusal f fd) (B : FX K mg aR aC aO) (GB : Def P wrl K mg base CX0 "_refuses_key" 2 ["fence", "host", "key", "word"] (spKeyBad K) fB fdB) (GO : Def P wrl K mg base CX0 "_keeps_out" 1 ["fence", "host", "word"] (spKeeps K) fO fdO)
    (GG : Def P wrl K mg base CX0 "_refusal_of_registered" 3 ["fence", "host", "command"] (spReg K) fG fdG) : FnOk P wrl K mg base CX0 4 f fd ["fence", "host", "key", "command"] (spRefusal K) := by
  refine F.ok scRefusal (fun vs H Q E h => ?_) (fun cdv A outer s H vs Q E hr h => ?_)
  · obtain ⟨fv, h, key, c, word, rest, rs, hd, rfl, _⟩ := h
    rfl
  · obtain ⟨fv, h, key, c, word, rest, rs, hd, rfl, FA, nd, hc, ok, q⟩ := h
    have hr1 : Room 1 _ := hr.mono (by decide)
    have hr2 : Room 2 _ := hr.mono (by decide)
    refine ⟨_, pss_cons (ps_set (i := 4) scRefusal.nd rfl (Or.inl rfl) (pe_ix ix_tup (pv 3) pe_int (fun _ _ => rfl)))
      (pss_cons (ps_if (PW.pt (pw_or (pt_val (pe_call GB.ok hr2 (by rfl) GB.mg GB.kp GB.bd .nil pass0 (pa_cons (pv 0) (pa_cons (pv 1) (pa_cons (pv 2) (pa_cons (pv 4) pa_nil)))))) (pw_or1 (pt_val (pe_call GO.ok hr1 (by rfl) GO.mg GO.kp GO.bd .nil pass0 (pa_cons (pv 0) (pa_cons (pv 1) (pa_cons (pv 4) pa_nil)))))))) (pss_one (ps_ret pe_str)) pss_nil)
      (pss_cons (ps_if (pt_cmpR op_in_seq (pv 4) (pe_glob (v := .ref aO) (by rfl) B.gO rfl) (by rfl)) (pss_one (ps_ret (pe_call GG.ok hr (by rfl) GG.mg GG.kp GG.bd .nil pass0 (pa_cons (pv 0) (pa_cons (pv 1) (pa_cons (pv 3) pa_nil)))))) pss_nil)
      (pss_one (ps_ret pe_str)))), ?_⟩
    refine stSet0 (v := .str word) (fun R r => ⟨_, rfl, c, _, _, _, rfl, rfl, hc, atI_nat (j := 0) rfl, r⟩) ?_
    refine ifSq (b := keyBad rs h key word || keepsOut hd h word) (fun R r => ?_) (fun hb H1 s1 => ?_) (fun hb H1 s1 => ?_)
    · refine ⟨_, rfl, _, rfl, _, rfl, _, rfl, fv, h, key, word, rs, hd, rfl, FA, nd, fun H1 s1 => ⟨_, rfl, ?_⟩⟩
      cases b1 : keyBad rs h key word with
      | true => rw [b1] at r; exact iteT (r H1 s1)
      | false => rw [b1] at r; exact iteF ⟨_, rfl, _, rfl, _, rfl, fv, h, word, rs, hd, rfl, FA.tk (TK.of s1), _, rfl, r H1 s1⟩
    · have := q H1 s1
      unfold due at this
      rw [if_pos hb] at this
      exact this
    · have q1 : ∀ H', Same H1 H' → Q (.str (due rs hd h key word rest)) H' := fun H' s' => q H' (s1.trans s')
      unfold due at q1
      rw [if_neg (by rw [hb]; exact Bool.false_ne_true)] at q1
      have e : inV (.str word) (registeredL.map V.str) = strIn word registeredL := inV_str
      refine ⟨_, rfl, aO, _, rfl, .inr (B.sO H1), rfl, flat_strs, _, rfl, ?_⟩
      rw [e]
      cases b2 : strIn word registeredL with
      | true =>
        rw [if_pos b2] at q1
        exact iteT ⟨_, rfl, _, rfl, _, rfl, fv, h, c, word, rest, rs, hd, rfl, FA.tk (TK.of s1), nd, sqT_tk hc (TK.of s1), ok, q1⟩
      | false =>
        rw [if_neg (by rw [b2]; exact Bool.false_ne_true)] at q1
        exact iteF (q1 H1 (Same.refl H1))
theorem scChangesNothing : FnScope ["fence", "host", "command"] ["fence", "host", "command"] (defScope sChangesNothing) := ⟨rfl, rfl, rfl, by decide +kernel, rfl, by decide +kernel, by decide +kernel⟩
theorem ok_nothing (F : Fun K "changes_nothing" "changes_nothing" sChangesNothing f fd) (GK : Def P wrl K mg base CX0 "key_of" 1 ["fence", "host"] (spKeyOf K) fK fdK) (GW : Def P wrl K mg base CX0 "holder_way" 1 ["fence", "host"] (spWay K) fW fdW) :
    FnOk P wrl K mg base CX0 2 f fd ["fence", "host", "command"] (spNothing K) := by
  refine F.ok scChangesNothing (fun vs H Q E h => ?_) (fun cdv A outer s H vs Q E hr h => ?_)
  · obtain ⟨fv, h, c, word, rest, rs, hd, rfl, _⟩ := h
    rfl
  · obtain ⟨fv, h, c, word, rest, rs, hd, rfl, FA, nd, hc, ok, q⟩ := h
    refine ⟨_, pss_cons (ps_if (pt_cmpR op_eq (pe_ix ix_tup (pv 2) pe_int (fun _ _ => rfl)) pe_str (nomark _)) (pss_one (ps_ret (pe_cmpR op_notN (pe_call GK.ok hr (by rfl) GK.mg GK.kp GK.bd .nil pass0 (pa_cons (pv 0) (pa_cons (pv 1) pa_nil))) pe_non (nomark _)))) pss_nil)
      (pss_one (ps_ret (pe_and (pe_cmpR op_eq (pe_ix ix_tup (pv 2) pe_int (fun _ _ => rfl)) pe_str (nomark _)) (pe_one (pe_cmpR op_eq (pe_call GW.ok hr (by rfl) GW.mg GW.kp GW.bd .nil pass0 (pa_cons (pv 0) (pa_cons (pv 1) pa_nil))) (pe_ix ix_tup (pv 2) pe_int (fun _ _ => rfl)) (nomark _)))))), ?_⟩
    unfold idle at q
    refine ⟨_, rfl, c, _, _, _, rfl, rfl, hc, atI_nat (j := 0) rfl, rfl, _, rfl, ?_⟩
    by_cases e1 : word = "register"
    · subst e1
      rw [str_eqT]
      refine iteT ⟨_, rfl, _, rfl, fv, h, rs, hd, rfl, FA, nd, fun H1 s1 => ⟨rfl, ?_⟩⟩
      rw [opt_non]
      have := q H1 s1
      rw [decide_eq_true rfl, decide_eq_false (by decide)] at this
      cases hl : look rs h <;> (rw [hl] at this; exact this)
    · rw [str_eqF e1]
      refine iteF ⟨_, rfl, c, _, _, _, rfl, rfl, hc, atI_nat (j := 0) rfl, rfl, _, rfl, ?_⟩
      have q1 := q H (Same.refl H)
      rw [decide_eq_false e1] at q1
      by_cases e2 : word = "reserve"
      · obtain ⟨n, w, rfl, _⟩ := ok.res e2
        rw [decide_eq_true e2] at q1
        rw [decide_eq_true (show V.str word = V.str "reserve" by rw [e2])]
        refine iteT ⟨_, rfl, _, rfl, fv, h, rs, hd, rfl, FA, _, rfl, c, _, _, _, rfl, rfl, hc, atI_nat (j := 2) rfl, way_scal, ?_⟩
        rw [hold_way]
        exact q1
      · rw [decide_eq_false e2] at q1
        rw [str_eqF e2]
        exact iteF q1
end
end Sg.Fe

set_option Elab.async false
set_option linter.all false
set_option maxRecDepth 100000
set_option maxHeartbeats 4000000
namespace Sg
open PySem PySem.Spec PyProof.Rows L2
/-! ### commands, and what is due -/
def rTIndex (K : PySem.W.Frag) : V → List V → Hp → VK → Prop := fun x xs H Q => ∃ (a : Addr) (ys : List Str) (y : Str), x = V.ref a ∧ xs = [.str y] ∧ SqT K H a (ys.map V.str) ∧ y ∈ ys ∧ Q (.int (ys.idxOf y : Nat)) H
theorem mt_tindex {X : Cx} : MtR X "tuple.index" (rTIndex X.K) := by
  intro pins s σ H x xs v us Q I rx rxs h
  obtain ⟨a, ys, y, rfl, rfl, hs, hy, q⟩ := h
  cases rx
  obtain ⟨its, r, ht, hz⟩ := I.tuple hs
  match us, rxs with
  | [u], .cons ru .nil =>
    obtain ⟨t, rfl⟩ := ru
    exact PySem.SeqAt.tuple_index_strs (vs := its) ht (Vals.strs r) hy ⟨.int (ys.idxOf y : Nat), H, I.tok _, ⟨_, rfl⟩, q⟩
theorem toFe {K : PySem.W.Frag} {H : Hp} {v : V} {rg : List (Int × Int)} {hd : Option (Int × Str)} (h : FenceAt K H v rg hd) : Fe.FenceAt K H v rg hd := by
  obtain ⟨a, r, hv, e, h1, ⟨ps, h2, h3⟩, h4⟩ := h
  refine ⟨a, r, hv, e, h1, ⟨ps, h2, Paired.imp2 (fun _ _ z => SqT.of z) h3⟩, ?_⟩
  cases hd with
  | none => exact h4
  | some p => exact h4
/-- [g(x) for x in d]: the keys, each through g -/
theorem keepF_te {K : PySem.W.Frag} {κ : Type} [DecidableEq κ] (T : TKd K κ) {σ : L2.St} {H : Hp} {Q : VK} {td te : TE} {jx : Nat} {d : Addr} {kvs : List (κ × V)} (g : κ → V)
    (ht : ∀ (H1 : Hp) (R : VK), (∀ b o, b ≠ d → H b = some o → H1 b = some o) → R (.ref d) H1 → td σ H1 R)
    (hd : H d = some (T.ho kvs)) (hl : kvs.length ≤ 1000)
    (he : ∀ x k H' (Q' : VK), k ∈ kvs.map (·.1) → T.at' H' x k → Q' (g k) H' → te ((σ.set jx none).set jx (some x)) H' Q')
    (q : ∀ D H', Same H H' → H' D = some (.lst (kvs.map fun p => g p.1)) → Q (.ref D) H') :
    tLockE (tLc (iKeys td) (gName jx) tYes te [jx]) σ H Q := by
  refine ⟨d, T.ho kvs, hd, T.mt _, fun od => ?_⟩
  have tk1 : TK H (upd H d (.frz od (T.ho kvs))) := tk_upd hd (T.nt kvs).1 (T.nt kvs).2
  have hd1 : (upd H d (.frz od (T.ho kvs))) d = some (.frz od (T.ho kvs)) := upd_same
  have lk := fun H' (s : Same (upd H d (.frz od (T.ho kvs))) H') => lock_same hd rfl s
  have ne : ∀ b o, b ≠ d → H b = some o → (upd H d (.frz od (T.ho kvs))) b = some o := fun b o n e => by rw [upd_ne n]; exact e
  generalize upd H d (.frz od (T.ho kvs)) = H1 at tk1 hd1 lk ne
  refine ht H1 _ ne ⟨d, od, rfl, T.walk (R := fun J G => ∀ D, G D = none → ∃ W : Nat → Nat → Hp → Prop, (∃ m, W 0 m (upd G D (.lst []))) ∧ ∀ i m H, W i m H →
      (J.stop i H ∧ H d = some (.frz od (T.ho kvs)) ∧ Q (.ref D) (upd H d (T.ho kvs))) ∨ (J.go i H ∧ ∃ Nx : Hp → Prop, (∀ H', Nx H' → ∃ m', m' < m ∧ W (i + 1) m' H') ∧ ∀ x H', J.yld i H x H' → gName jx x (wipe σ [jx]) H' fun σ2 H2 => wipe σ2 [jx] = wipe σ [jx] ∧ tYes σ2 H2 fun b H3 =>
        if b = true then te σ2 H3 fun y H4 => ∃ acc, H4 D = some (.lst acc) ∧ acc.length < sizeLine ∧ Nx (upd H4 D (.lst (acc ++ [y]))) else Nx H3)) hd1 fun J w D hD => ?_⟩
  refine lc_it w (fun i H' => Same H1 H' ∧ H' D = some (.lst ((kvs.take i).map fun p => g p.1))) ⟨same_new hD, upd_same⟩ (fun i H' _ p => p.1 _ _ hd1) ?_ ?_
  · rintro i x H' H'' hi ⟨sm, hDi⟩ ⟨rfl, k, v, hki, hat⟩
    refine ⟨?_, ?_⟩
    · show ((σ.set jx none).set jx (some x)).set jx none = σ.set jx none
      rw [List.set_set, List.set_set]
    · refine yesIte (he x k H'' _ (List.mem_map.mpr ⟨_, List.mem_of_getElem? hki, rfl⟩) hat ?_)
      have lt : (kvs.take i).length ≤ 1000 := by rw [List.length_take]; omega
      refine ⟨_, hDi, small1000 (by rw [List.length_map]; exact lt), fun b o e => ?_, ?_⟩
      · have : b ≠ D := fun z => by rw [z, hD] at e; cases e
        rw [upd_ne this]; exact sm _ _ e
      · rw [List.take_add_one, hki, List.map_append]
        exact upd_same
  · rintro H' ⟨sm, hDn⟩
    have hdn := sm _ _ hd1
    have nDd : D ≠ d := fun z => by rw [z, hd1] at hD; cases hD
    rw [List.take_length] at hDn
    exact ⟨hdn, q D _ (lk _ sm) (by rw [upd_ne nDd]; exact hDn)⟩
def headI : List Key → V
  | .inl n :: _ => .int n
  | _ => .non
theorem Fe.flat_ints : ∀ {xs : List Int}, (xs.map V.int).all flatV = true
  | [] => rfl
  | n :: ns => by rw [List.map_cons, List.all_cons, flat_ints (xs := ns)]; rfl
theorem inV_ints {n : Int} : ∀ {xs : List Int}, inV (.int n) (xs.map V.int) = xs.any fun y => decide (y = n)
  | [] => rfl
  | y :: ys => by
    show (eqV (.int y) (.int n) || inV (.int n) (ys.map V.int)) = (decide (y = n) || ys.any fun y => decide (y = n))
    rw [inV_ints (xs := ys)]; rfl
inductive Cm
  | make (n z : Int) | remove (n : Int) | write (n p v : Int) | trim (n p : Int) | read (n p : Int) | snap (n : Int) | view (n m p : Int) | drop (n m : Int) | register (n : Int) | leave (n : Int)
  | reserve (n : Int) (w : Str) | release (n : Int) | preempt (n v : Int) | flush
def cmS : Cm → Str
  | .make _ _ => "make" | .remove _ => "remove" | .write _ _ _ => "write" | .trim _ _ => "trim" | .read _ _ => "read" | .snap _ => "snap" | .view _ _ _ => "view" | .drop _ _ => "drop" | .register _ => "register" | .leave _ => "leave"
  | .reserve _ _ => "reserve" | .release _ => "release" | .preempt _ _ => "preempt" | .flush => "flush"
def cmI : Cm → List V
  | .make n z => [.int n, .int z] | .remove n => [.int n] | .write n p v => [.int n, .int p, .int v] | .trim n p => [.int n, .int p] | .read n p => [.int n, .int p] | .snap n => [.int n] | .view n m p => [.int n, .int m, .int p]
  | .drop n m => [.int n, .int m] | .register n => [.int n] | .leave n => [.int n] | .reserve n w => [.int n, .str w] | .release n => [.int n] | .preempt n v => [.int n, .int v] | .flush => []
def nsC : Cm → Int
  | .make n _ => n | .remove n => n | .write n _ _ => n | .trim n _ => n | .read n _ => n | .snap n => n | .view n _ _ => n | .drop n _ => n | .register n => n | .leave n => n | .reserve n _ => n | .release n => n | .preempt n _ => n | .flush => 0
def okC : Cm → Prop
  | .reserve _ w => PyData.strOk w = true
  | _ => True
def plC : Cm → Option Int
  | .write _ p _ => some p | .trim _ p => some p | .read _ p => some p | .view _ _ p => some p | _ => none
def smC : Cm → Option Int
  | .view _ m _ => some m | .drop _ m => some m | _ => none
def CmdAt (K : PySem.W.Frag) (H : Hp) (c : Addr) (cm : Cm) : Prop := SqT K H c (.str (cmS cm) :: cmI cm)
def lostC (st : Sta) (cm : Cm) : Bool := match smC cm with
  | none => false
  | some m => (lookI st.sn (nsC cm, m)).isNone
def farC (s : Spc) (cm : Cm) : Bool := match plC cm with
  | none => false
  | some p => decide (s.z ≤ p)
def heldC (st : Sta) : Cm → Bool
  | .remove n => st.sn.any fun q => decide (q.1.1 = n)
  | _ => false
def tailW (st : Sta) (s : Spc) (cm : Cm) : Str := if lostC st cm = true then "none" else if farC s cm = true then "place" else if heldC st cm = true then "held" else ""
def inW (st : Sta) (h : Int) (key : Option Int) (cm : Cm) : Str := match lookI st.sp (nsC cm) with
  | none => "none"
  | some s => if Fe.due s.rg s.hd h key (cmS cm) (cmI cm) = "" then tailW st s cm else Fe.due s.rg s.hd h key (cmS cm) (cmI cm)
def refW (st : Sta) (h : Int) (key : Option Int) (cm : Cm) : Str := match cm with
  | .flush => ""
  | .make n _ => if (lookI st.sp n).isSome = true then "exists" else ""
  | cm => inW st h key cm
def valW (st : Sta) (h o : Int) : Cm → Option Int
  | .read n p => (lookI st.sp n).bind fun s => lookI s.cs p
  | .view n m p => (lookI st.sn (n, m)).bind fun cs => lookI cs p
  | .snap _ => some o
  | .register n => (lookI st.sp n).map fun s => (Fe.look s.rg h).getD o
  | _ => none
def wayHas (hd : Option (Int × Str)) (h : Int) : Bool := !decide (Fe.wayV hd h = .non)
def fldIn (s : Spc) (h : Int) (cm : Cm) : Option (List V) := if Fe.idle s.rg s.hd h (cmS cm) (cmI cm) = true then none else match cm with
  | .leave n => some [.int n, .bl (wayHas s.hd h)]
  | .preempt n v => some [.int n, .int v, Fe.wayV s.hd v]
  | cm => some (cmI cm)
def trimN (s : Spc) : Cm → Bool
  | .trim _ p => (lookI s.cs p).isNone
  | _ => false
def fldW (st : Sta) (h : Int) : Cm → Option (List V)
  | .make n z => some [.int n, .int z]
  | .read _ _ => none
  | .view _ _ _ => none
  | .flush => none
  | cm => (lookI st.sp (nsC cm)).bind fun s => if trimN s cm = true then none else fldIn s h cm
def partsT : List (Str × List Str) := [("make", ["namespace", "size"]), ("remove", ["namespace"]), ("write", ["namespace", "place", "value"]), ("trim", ["namespace", "place"]), ("read", ["namespace", "place"]), ("snap", ["namespace"]), ("view", ["namespace", "snapshot", "place"]),
  ("drop", ["namespace", "snapshot"]), ("register", ["namespace"]), ("leave", ["namespace"]), ("reserve", ["namespace", "way"]), ("release", ["namespace"]), ("preempt", ["namespace", "victim"]), ("flush", [])]
structure PX (K : PySem.W.Frag) (w : World) (mg : Str → Option Value) (aP aL : Addr) : Prop where
  gP : mg "PARTS" = some (.ref aP)
  fT : ∀ p ∈ partsT, ∃ a, KDct K w aP p.1 (.ref a) ∧ (∃ o, K.lookup a = some o ∧ o.cls = .type "tuple" ∧ o.dict = none) ∧ ∀ H, SqT K H a (p.2.map V.str)
  gL : mg "RECORDLESS" = some (.ref aL)
  tL : ∀ H, SqT K H aL ((["read", "view", "flush"] : List Str).map V.str)
def spNsOf (K : PySem.W.Frag) : Sp := fun vs H Q _ => ∃ c cm, vs = [.ref c] ∧ CmdAt K H c cm ∧ Q (if cmS cm = "flush" then .non else .int (nsC cm)) H
def spPartOf (K : PySem.W.Frag) : Sp := fun vs H Q _ => ∃ c cm p, vs = [.ref c, .str "place"] ∧ CmdAt K H c cm ∧ plC cm = some p ∧ Q (.int p) H
structure StW (st : Sta) : Prop where
  kn : ∀ p ∈ st.sp, Fe.KNd p.2.rg
  sn : st.sn.length ≤ 1000
def spRefDue (K : PySem.W.Frag) : Sp := fun vs H Q _ => ∃ a st h key c cm, vs = [.ref a, .int h, Fe.optI key, .ref c] ∧ StAt K H a st ∧ StW st ∧ CmdAt K H c cm ∧ okC cm ∧ ∀ H', Same H H' → Q (.str (refW st h key cm)) H'
def spValueDue (K : PySem.W.Frag) : Sp := fun vs H Q _ => ∃ a st h c cm o, vs = [.ref a, .int h, .ref c, .int o] ∧ StAt K H a st ∧ StW st ∧ CmdAt K H c cm ∧ (cmS cm ≠ "flush" → cmS cm ≠ "make" → ∃ s, lookI st.sp (nsC cm) = some s) ∧ (∀ n m p, cm = .view n m p → ∃ cs, lookI st.sn (n, m) = some cs) ∧ ∀ H', Same H H' → Q (oV (valW st h o cm)) H'
def OptTup (K : PySem.W.Frag) (H : Hp) (v : V) : Option (List V) → Prop
  | none => v = .non
  | some xs => ∃ t, v = .ref t ∧ SqT K H t xs
def spFieldsDue (K : PySem.W.Frag) : Sp := fun vs H Q _ => ∃ a st h c cm, vs = [.ref a, .int h, .ref c] ∧ StAt K H a st ∧ StW st ∧ CmdAt K H c cm ∧ okC cm ∧ (cmS cm ≠ "flush" → cmS cm ≠ "make" → ∃ s, lookI st.sp (nsC cm) = some s) ∧ ∀ v H', Same H H' → OptTup K H' v (fldW st h cm) → Q v H'
section
variable {P : Program} {wd : World} {K : PySem.W.Frag} {mg : Str → Option Value} {base : Heap} {f fN fS fF fP fC fR fK fW fV aP aL CN CS : Addr} {fd fdN fdS fdF fdP fdC fdR fdK fdW fdV : FuncData}
theorem scNamespaceOf : FnScope ["command"] ["command"] (defScope sNamespaceOf) := ⟨rfl, rfl, rfl, by decide +kernel, rfl, by decide +kernel, by decide +kernel⟩
theorem cm_ns {cm : Cm} (h : ¬ cmS cm = "flush") : ∃ xs, cmI cm = .int (nsC cm) :: xs := by
  cases cm with
  | flush => exact absurd rfl h
  | _ => exact ⟨_, rfl⟩
theorem ok_nsOf (F : Fun K "namespace_of" "namespace_of" sNamespaceOf f fd) : FnOk P wd K mg base CX0 1 f fd ["command"] (spNsOf K) := by
  refine F.ok scNamespaceOf (fun vs H Q E h => ?_) (fun cdv A outer s H vs Q E hr h => ?_)
  · obtain ⟨c, cm, rfl, _⟩ := h
    rfl
  · obtain ⟨c, cm, rfl, hc, q⟩ := h
    refine ⟨_, (pss_one (ps_ret (pe_ifExp (pt_cmpR op_eq (pe_ix ix_tup (pv 0) pe_int (fun _ _ => rfl)) pe_str (nomark _)) pe_non (pe_ix ix_tup (pv 0) pe_int (fun _ _ => rfl))))), ?_⟩
    refine ⟨_, rfl, c, _, _, _, rfl, rfl, hc, atI_nat (j := 0) rfl, rfl, _, rfl, ?_⟩
    by_cases e : cmS cm = "flush"
    · rw [if_pos e] at q
      exact chooseT (decide_eq_true (by rw [e])) q
    · rw [if_neg e] at q
      obtain ⟨xs, ex⟩ := cm_ns e
      refine chooseF (str_eqF e) ⟨_, rfl, c, _, _, _, rfl, rfl, hc, atI_nat (j := 1) (by rw [ex]; rfl), q⟩
theorem scPartOf : FnScope ["command", "name"] ["command", "name"] (defScope sPartOf) := ⟨rfl, rfl, rfl, by decide +kernel, rfl, by decide +kernel, by decide +kernel⟩
theorem cm_parts (cm : Cm) : ∃ ns, (cmS cm, ns) ∈ partsT ∧ (plC cm = none → ¬ ("place" : Str) ∈ ns) ∧ ∀ p, plC cm = some p → ("place" : Str) ∈ ns ∧ (V.str (cmS cm) :: cmI cm)[1 + ns.idxOf ("place" : Str)]? = some (.int p) := by
  cases cm with
  | make n z => exact ⟨(["namespace", "size"] : List Str), (show (("make" : Str), (["namespace", "size"] : List Str)) ∈ partsT by decide +kernel), (fun _ => (show ¬ ("place" : Str) ∈ (["namespace", "size"] : List Str) by decide +kernel)), (fun q e => nomatch e)⟩
  | remove n => exact ⟨(["namespace"] : List Str), (show (("remove" : Str), (["namespace"] : List Str)) ∈ partsT by decide +kernel), (fun _ => (show ¬ ("place" : Str) ∈ (["namespace"] : List Str) by decide +kernel)), (fun q e => nomatch e)⟩
  | write n p v => exact ⟨(["namespace", "place", "value"] : List Str), (show (("write" : Str), (["namespace", "place", "value"] : List Str)) ∈ partsT by decide +kernel), (fun e => nomatch e), fun q e => ⟨(show ("place" : Str) ∈ (["namespace", "place", "value"] : List Str) by decide +kernel), by cases e; rfl⟩⟩
  | trim n p => exact ⟨(["namespace", "place"] : List Str), (show (("trim" : Str), (["namespace", "place"] : List Str)) ∈ partsT by decide +kernel), (fun e => nomatch e), fun q e => ⟨(show ("place" : Str) ∈ (["namespace", "place"] : List Str) by decide +kernel), by cases e; rfl⟩⟩
  | read n p => exact ⟨(["namespace", "place"] : List Str), (show (("read" : Str), (["namespace", "place"] : List Str)) ∈ partsT by decide +kernel), (fun e => nomatch e), fun q e => ⟨(show ("place" : Str) ∈ (["namespace", "place"] : List Str) by decide +kernel), by cases e; rfl⟩⟩
  | snap n => exact ⟨(["namespace"] : List Str), (show (("snap" : Str), (["namespace"] : List Str)) ∈ partsT by decide +kernel), (fun _ => (show ¬ ("place" : Str) ∈ (["namespace"] : List Str) by decide +kernel)), (fun q e => nomatch e)⟩
  | view n m p => exact ⟨(["namespace", "snapshot", "place"] : List Str), (show (("view" : Str), (["namespace", "snapshot", "place"] : List Str)) ∈ partsT by decide +kernel), (fun e => nomatch e), fun q e => ⟨(show ("place" : Str) ∈ (["namespace", "snapshot", "place"] : List Str) by decide +kernel), by cases e; rfl⟩⟩
  | drop n m => exact ⟨(["namespace", "snapshot"] : List Str), (show (("drop" : Str), (["namespace", "snapshot"] : List Str)) ∈ partsT by decide +kernel), (fun _ => (show ¬ ("place" : Str) ∈ (["namespace", "snapshot"] : List Str) by decide +kernel)), (fun q e => nomatch e)⟩
  | register n => exact ⟨(["namespace"] : List Str), (show (("register" : Str), (["namespace"] : List Str)) ∈ partsT by decide +kernel), (fun _ => (show ¬ ("place" : Str) ∈ (["namespace"] : List Str) by decide +kernel)), (fun q e => nomatch e)⟩
  | leave n => exact ⟨(["namespace"] : List Str), (show (("leave" : Str), (["namespace"] : List Str)) ∈ partsT by decide +kernel), (fun _ => (show ¬ ("place" : Str) ∈ (["namespace"] : List Str) by decide +kernel)), (fun q e => nomatch e)⟩
  | reserve n w => exact ⟨(["namespace", "way"] : List Str), (show (("reserve" : Str), (["namespace", "way"] : List Str)) ∈ partsT by decide +kernel), (fun _ => (show ¬ ("place" : Str) ∈ (["namespace", "way"] : List Str) by decide +kernel)), (fun q e => nomatch e)⟩
  | release n => exact ⟨(["namespace"] : List Str), (show (("release" : Str), (["namespace"] : List Str)) ∈ partsT by decide +kernel), (fun _ => (show ¬ ("place" : Str) ∈ (["namespace"] : List Str) by decide +kernel)), (fun q e => nomatch e)⟩
  | preempt n v => exact ⟨(["namespace", "victim"] : List Str), (show (("preempt" : Str), (["namespace", "victim"] : List Str)) ∈ partsT by decide +kernel), (fun _ => (show ¬ ("place" : Str) ∈ (["namespace", "victim"] : List Str) by decide +kernel)), (fun q e => nomatch e)⟩
  | flush => exact ⟨([] : List Str), (show (("flush" : Str), ([] : List Str)) ∈ partsT by decide +kernel), (fun _ => (show ¬ ("place" : Str) ∈ ([] : List Str) by decide +kernel)), (fun q e => nomatch e)⟩
theorem ok_partOf (F : Fun K "_part_of" "_part_of" sPartOf f fd) (R : PX K wd mg aP aL) : FnOk P wd K mg base CX0 1 f fd ["command", "name"] (spPartOf K) := by
  refine F.ok scPartOf (fun vs H Q E h => ?_) (fun cdv A outer s H vs Q E hr h => ?_)
  · obtain ⟨c, cm, p, rfl, _⟩ := h
    rfl
  · obtain ⟨c, cm, p, rfl, hc, hp, q⟩ := h
    refine ⟨_, (pss_one (ps_ret (pe_ix ix_tup (pv 0) (pe_op op_add pe_int (pe_bm PySem.F.plainAttrs_tuple PySem.F.slot_tuple_index PySem.F.type_tuple_index mt_tindex (pe_ix ix_kdict (pe_glob (v := .ref aP) (by rfl) R.gP rfl) (pe_ix ix_tup (pv 0) pe_int (fun _ _ => rfl)) (fun _ _ => rfl)) (pa_cons (pv 1) pa_nil))) (fun _ _ => rfl)))), ?_⟩
    obtain ⟨ns, hm, _, h2⟩ := cm_parts cm
    obtain ⟨i1, i2⟩ := h2 p hp
    obtain ⟨a, ka, ta, sa⟩ := R.fT _ hm
    refine ⟨_, rfl, _, rfl, c, _, _, _, rfl, rfl, hc, atI_nat (j := 0) rfl, aP, _, .ref a, rfl, rfl, ka, ?_⟩
    refine ⟨.inr (.inl ⟨rfl, ta⟩), _, rfl, a, ns, "place", rfl, rfl, sa H, i1, _, _, rfl, rfl, c, _, _, _, rfl, rfl, hc, ?_, q⟩
    have := atI_nat i2
    rw [Int.natCast_add] at this
    exact this
theorem cm_flush {cm : Cm} (h : cmS cm = "flush") : cm = .flush := by
  cases cm with
  | flush => rfl
  | _ => dsimp only [cmS] at h; exact absurd h (by decide +kernel)
theorem cm_make {cm : Cm} (h : cmS cm = "make") : ∃ n z, cm = .make n z := by
  cases cm with
  | make n z => exact ⟨n, z, rfl⟩
  | _ => dsimp only [cmS] at h; exact absurd h (by decide +kernel)
theorem cm_no {x y : Str} {R : Prop} (h : decide (x = y) = false) (e : x = y) : R := absurd e (of_decide_eq_false h)
theorem cm_ok {cm : Cm} (h1 : ¬ cmS cm = "flush") (h2 : ¬ cmS cm = "make") (o : okC cm) : Fe.CmdOk (cmS cm) (cmI cm) := by
  cases cm with
  | flush => exact absurd rfl h1
  | make n z => exact absurd rfl h2
  | remove n => exact ⟨(fun e => cm_no (x := "remove") (y := "reserve") (by decide +kernel) e), (fun e => cm_no (x := "remove") (y := "preempt") (by decide +kernel) e), (fun e => cm_no (x := "remove") (y := "release") (by decide +kernel) e), (show Fe.strIn "remove" Fe.namesL = true by decide +kernel)⟩
  | write n p v => exact ⟨(fun e => cm_no (x := "write") (y := "reserve") (by decide +kernel) e), (fun e => cm_no (x := "write") (y := "preempt") (by decide +kernel) e), (fun e => cm_no (x := "write") (y := "release") (by decide +kernel) e), (show Fe.strIn "write" Fe.namesL = true by decide +kernel)⟩
  | trim n p => exact ⟨(fun e => cm_no (x := "trim") (y := "reserve") (by decide +kernel) e), (fun e => cm_no (x := "trim") (y := "preempt") (by decide +kernel) e), (fun e => cm_no (x := "trim") (y := "release") (by decide +kernel) e), (show Fe.strIn "trim" Fe.namesL = true by decide +kernel)⟩
  | read n p => exact ⟨(fun e => cm_no (x := "read") (y := "reserve") (by decide +kernel) e), (fun e => cm_no (x := "read") (y := "preempt") (by decide +kernel) e), (fun e => cm_no (x := "read") (y := "release") (by decide +kernel) e), (show Fe.strIn "read" Fe.namesL = true by decide +kernel)⟩
  | snap n => exact ⟨(fun e => cm_no (x := "snap") (y := "reserve") (by decide +kernel) e), (fun e => cm_no (x := "snap") (y := "preempt") (by decide +kernel) e), (fun e => cm_no (x := "snap") (y := "release") (by decide +kernel) e), (show Fe.strIn "snap" Fe.namesL = true by decide +kernel)⟩
  | view n m p => exact ⟨(fun e => cm_no (x := "view") (y := "reserve") (by decide +kernel) e), (fun e => cm_no (x := "view") (y := "preempt") (by decide +kernel) e), (fun e => cm_no (x := "view") (y := "release") (by decide +kernel) e), (show Fe.strIn "view" Fe.namesL = true by decide +kernel)⟩
  | drop n m => exact ⟨(fun e => cm_no (x := "drop") (y := "reserve") (by decide +kernel) e), (fun e => cm_no (x := "drop") (y := "preempt") (by decide +kernel) e), (fun e => cm_no (x := "drop") (y := "release") (by decide +kernel) e), (show Fe.strIn "drop" Fe.namesL = true by decide +kernel)⟩
  | register n => exact ⟨(fun e => cm_no (x := "register") (y := "reserve") (by decide +kernel) e), (fun e => cm_no (x := "register") (y := "preempt") (by decide +kernel) e), (fun e => cm_no (x := "register") (y := "release") (by decide +kernel) e), (show Fe.strIn "register" Fe.namesL = true by decide +kernel)⟩
  | leave n => exact ⟨(fun e => cm_no (x := "leave") (y := "reserve") (by decide +kernel) e), (fun e => cm_no (x := "leave") (y := "preempt") (by decide +kernel) e), (fun e => cm_no (x := "leave") (y := "release") (by decide +kernel) e), (show Fe.strIn "leave" Fe.namesL = true by decide +kernel)⟩
  | reserve n w => exact ⟨fun _ => ⟨n, w, rfl, o⟩, (fun e => cm_no (x := "reserve") (y := "preempt") (by decide +kernel) e), (fun e => cm_no (x := "reserve") (y := "release") (by decide +kernel) e), (show Fe.strIn "reserve" Fe.namesL = true by decide +kernel)⟩
  | release n => exact ⟨(fun e => cm_no (x := "release") (y := "reserve") (by decide +kernel) e), (fun e => cm_no (x := "release") (y := "preempt") (by decide +kernel) e), fun _ => ⟨n, rfl⟩, (show Fe.strIn "release" Fe.namesL = true by decide +kernel)⟩
  | preempt n v => exact ⟨(fun e => cm_no (x := "preempt") (y := "reserve") (by decide +kernel) e), fun _ => ⟨n, v, rfl⟩, (fun e => cm_no (x := "preempt") (y := "release") (by decide +kernel) e), (show Fe.strIn "preempt" Fe.namesL = true by decide +kernel)⟩
theorem cm_in {st : Sta} {h : Int} {key : Option Int} {cm : Cm} (h1 : ¬ cmS cm = "flush") (h2 : ¬ cmS cm = "make") : refW st h key cm = inW st h key cm := by
  cases cm with
  | flush => exact absurd rfl h1
  | make n z => exact absurd rfl h2
  | _ => rfl
theorem cm_sm (cm : Cm) : (smC cm = none ∧ Fe.strIn (cmS cm) ["view", "drop"] = false) ∨ ∃ m, smC cm = some m ∧ Fe.strIn (cmS cm) ["view", "drop"] = true ∧ (V.str (cmS cm) :: cmI cm)[2]? = some (.int m) := by
  cases cm with
  | view n m p => exact .inr ⟨m, rfl, (show Fe.strIn "view" ["view", "drop"] = true by decide +kernel), rfl⟩
  | drop n m => exact .inr ⟨m, rfl, (show Fe.strIn "drop" ["view", "drop"] = true by decide +kernel), rfl⟩
  | make n z => exact .inl ⟨rfl, (show Fe.strIn "make" ["view", "drop"] = false by decide +kernel)⟩
  | remove n => exact .inl ⟨rfl, (show Fe.strIn "remove" ["view", "drop"] = false by decide +kernel)⟩
  | write n p v => exact .inl ⟨rfl, (show Fe.strIn "write" ["view", "drop"] = false by decide +kernel)⟩
  | trim n p => exact .inl ⟨rfl, (show Fe.strIn "trim" ["view", "drop"] = false by decide +kernel)⟩
  | read n p => exact .inl ⟨rfl, (show Fe.strIn "read" ["view", "drop"] = false by decide +kernel)⟩
  | snap n => exact .inl ⟨rfl, (show Fe.strIn "snap" ["view", "drop"] = false by decide +kernel)⟩
  | register n => exact .inl ⟨rfl, (show Fe.strIn "register" ["view", "drop"] = false by decide +kernel)⟩
  | leave n => exact .inl ⟨rfl, (show Fe.strIn "leave" ["view", "drop"] = false by decide +kernel)⟩
  | reserve n w => exact .inl ⟨rfl, (show Fe.strIn "reserve" ["view", "drop"] = false by decide +kernel)⟩
  | release n => exact .inl ⟨rfl, (show Fe.strIn "release" ["view", "drop"] = false by decide +kernel)⟩
  | preempt n v => exact .inl ⟨rfl, (show Fe.strIn "preempt" ["view", "drop"] = false by decide +kernel)⟩
  | flush => exact .inl ⟨rfl, (show Fe.strIn "flush" ["view", "drop"] = false by decide +kernel)⟩
theorem cm_rem (cm : Cm) : (∃ n, cm = .remove n) ∨ (¬ cmS cm = "remove" ∧ ∀ st, heldC st cm = false) := by
  cases cm with
  | remove n => exact .inl ⟨n, rfl⟩
  | make n z => exact .inr ⟨(show ¬ (("make" : Str) = "remove") by decide +kernel), fun _ => rfl⟩
  | write n p v => exact .inr ⟨(show ¬ (("write" : Str) = "remove") by decide +kernel), fun _ => rfl⟩
  | trim n p => exact .inr ⟨(show ¬ (("trim" : Str) = "remove") by decide +kernel), fun _ => rfl⟩
  | read n p => exact .inr ⟨(show ¬ (("read" : Str) = "remove") by decide +kernel), fun _ => rfl⟩
  | snap n => exact .inr ⟨(show ¬ (("snap" : Str) = "remove") by decide +kernel), fun _ => rfl⟩
  | view n m p => exact .inr ⟨(show ¬ (("view" : Str) = "remove") by decide +kernel), fun _ => rfl⟩
  | drop n m => exact .inr ⟨(show ¬ (("drop" : Str) = "remove") by decide +kernel), fun _ => rfl⟩
  | register n => exact .inr ⟨(show ¬ (("register" : Str) = "remove") by decide +kernel), fun _ => rfl⟩
  | leave n => exact .inr ⟨(show ¬ (("leave" : Str) = "remove") by decide +kernel), fun _ => rfl⟩
  | reserve n w => exact .inr ⟨(show ¬ (("reserve" : Str) = "remove") by decide +kernel), fun _ => rfl⟩
  | release n => exact .inr ⟨(show ¬ (("release" : Str) = "remove") by decide +kernel), fun _ => rfl⟩
  | preempt n v => exact .inr ⟨(show ¬ (("preempt" : Str) = "remove") by decide +kernel), fun _ => rfl⟩
  | flush => exact .inr ⟨(show ¬ (("flush" : Str) = "remove") by decide +kernel), fun _ => rfl⟩
theorem scRefDue : FnScope ["state", "host", "key", "command", "word", "namespace", "size", "_", "fence", "by_fence", "name"] ["state", "host", "key", "command"] (defScope sRefDue) := ⟨rfl, rfl, rfl, by decide +kernel, rfl, by decide +kernel, by decide +kernel⟩
theorem ok_refDue (F : Fun K "_refusal_due" "_refusal_due" sRefDue f fd) (R : PX K wd mg aP aL) (GN : Def P wd K mg base CX0 "namespace_of" 1 ["command"] (spNsOf K) fN fdN) (GS : Def P wd K mg base (L2.CX P wd) "space_of" 2 ["state", "namespace"] (spSpaceOf K CN) fS fdS)
    (GF : Def P wd K mg base CX0 "refusal" 4 ["fence", "host", "key", "command"] (Fe.spRefusal K) fF fdF) (GP : Def P wd K mg base CX0 "_part_of" 1 ["command", "name"] (spPartOf K) fP fdP) : FnOk P wd K mg base CX0 5 f fd ["state", "host", "key", "command"] (spRefDue K) := by
  refine F.ok scRefDue (fun vs H Q E h => ?_) (fun cdv A outer s H vs Q E hr h => ?_)
  · obtain ⟨a, st, h, key, c, cm, rfl, _⟩ := h
    rfl
  · obtain ⟨a, st, h, key, c, cm, rfl, SA, W, hc, oc, q⟩ := h
    have hr1 : Room 1 _ := hr.mono (by decide)
    have hr2 : Room 2 _ := hr.mono (by decide)
    have hr3 : Room 4 _ := hr
    refine ⟨_, (pss_cons (ps_set (i := 4) scRefDue.nd rfl (Or.inl rfl) (pe_ix ix_tup (pv 3) pe_int (fun _ _ => rfl)))
      (pss_cons (ps_set (i := 5) scRefDue.nd rfl (Or.inl rfl) (pe_call GN.ok hr1 (by rfl) GN.mg GN.kp GN.bd .nil pass0 (pa_cons (pv 3) pa_nil)))
      (pss_cons (ps_if (pt_cmpR op_eq (pv 4) pe_str (nomark _))
      (pss_one (ps_ret pe_str)) pss_nil)
      (pss_cons (ps_if (pt_cmpR op_eq (pv 4) pe_str (nomark _))
      (pss_one (ps_ret (pe_ifExp (pt_cmp (pc_din (hu_of hr) (pv 5) (pe_dget (hu_of hr) (pv 0) pe_str (fun _ _ => rfl)))) pe_str pe_str))) pss_nil)
      (pss_cons (ps_if (pt_cmp (pc_dnotin (hu_of hr) (pv 5) (pe_dget (hu_of hr) (pv 0) pe_str (fun _ _ => rfl))))
      (pss_one (ps_ret pe_str)) pss_nil)
      (pss_cons (ps_asg (pe_call GS.ok hr2 (by rfl) GS.mg GS.kp GS.bd .nil passL (pa_cons (pv 0) (pa_cons (pv 5) pa_nil))) (pg_tup (by rfl) (pgs_cons (pg_name (i := 6) scRefDue.nd rfl (Or.inl rfl)) (pgs_cons (pg_name (i := 7) scRefDue.nd rfl (Or.inl rfl)) (pgs_cons (pg_name (i := 8) scRefDue.nd rfl (Or.inl rfl)) L2.pgs_nil)))))
      (pss_cons (ps_set (i := 9) scRefDue.nd rfl (Or.inl rfl) (pe_call GF.ok hr3 (by rfl) GF.mg GF.kp GF.bd .nil pass0 (pa_cons (pv 8) (pa_cons (pv 1) (pa_cons (pv 2) (pa_cons (pv 3) pa_nil))))))
      (pss_cons (ps_if (pt_cmpR op_ne (pv 9) pe_str (nomark _))
      (pss_one (ps_ret (pv 9))) pss_nil)
      (Evl.pss_cut (ps_if (PW.pt (pw_and (pt_cmpR op_in_seq (pv 4) (pe_tup (pa_cons pe_str (pa_cons pe_str pa_nil))) (by rfl)) (pw_and1 (pt_cmp (pc_dnotin (hu_of hr) (pe_tup (pa_cons (pv 5) (pa_cons (pe_ix ix_tup (pv 3) pe_int (fun _ _ => rfl)) pa_nil))) (pe_dget (hu_of hr) (pv 0) pe_str (fun _ _ => rfl)))))))
      (pss_one (ps_ret pe_str)) pss_nil)
      (Evl.pss_cut (ps_if (PW.pt (pw_and (pt_cmpR op_in_seq pe_str (pe_ix ix_kdict (pe_glob (v := .ref aP) (by rfl) R.gP rfl) (pv 4) (fun _ _ => rfl)) (by rfl)) (pw_and1 (pt_cmpR op_ge (pe_call GP.ok hr1 (by rfl) GP.mg GP.kp GP.bd .nil pass0 (pa_cons (pv 3) (pa_cons pe_str pa_nil))) (pv 6) (nomark _)))))
      (pss_one (ps_ret pe_str)) pss_nil)
      (pss_cons (ps_if (PW.pt (pw_and (pt_cmpR op_eq (pv 4) pe_str (nomark _)) (pw_and1 (pt_cmpR op_in_seq (pv 5) (pe_lock (pe_lc (own := [("name", 10)]) (g := gName 10) (tt := tYes) (te := tOp (rIxT K) (tVar 10) (tC (.int 0))) (by rfl) scRefDue.nd (pi_keys (pe_dget (hu_of hr) (pv 0) pe_str (fun _ _ => rfl))) (blkOk_by (own := [("name", 10)]) (N := ["state", "host", "key", "command", "word", "namespace", "size", "_", "fence", "by_fence", "name"]) (sc := defScope sRefDue) (by decide +kernel)) (fun _ _ _ _ _ => pg_name (i := 10) scRefDue.nd rfl (Or.inl rfl)) (fun _ _ _ _ _ => pts_nil) (fun _ _ _ _ _ => by exact (pe_ix ix_tup (pv 10) pe_int (fun _ _ => rfl))))) (by rfl)))))
      (pss_one (ps_ret pe_str)) pss_nil)
      (pss_one (ps_ret pe_str))))))))))))), ?_⟩
    refine ⟨_, rfl, c, _, _, _, rfl, rfl, hc, atI_nat (j := 0) rfl, ?_⟩
    refine ⟨_, rfl, c, cm, rfl, hc, ?_⟩
    by_cases e1 : cmS cm = "flush"
    · rw [if_pos e1]
      refine ⟨_, rfl, rfl, _, rfl, chooseT (decide_eq_true (by rw [e1])) ?_⟩
      have := cm_flush e1
      subst this
      exact q H (Same.refl _)
    rw [if_neg e1]
    refine ⟨_, rfl, rfl, _, rfl, chooseF (str_eqF e1) ?_⟩
    obtain ⟨b1, b2, b3, ha, ⟨kvs, hk, pr, nd⟩, ⟨kvs2, hk2, pr2, nd2⟩, _⟩ := id SA
    by_cases e2 : cmS cm = "make"
    · refine ⟨_, rfl, rfl, _, rfl, chooseT (decide_eq_true (by rw [e2])) ?_⟩
      obtain ⟨n, z, rfl⟩ := cm_make e2
      rcases pr_look (R := SpcAt K H) eI_inj (k := n) pr with ⟨l0, hz⟩ | ⟨sp, z', l0, hz, az⟩
      · refine ⟨_, rfl, _, rfl, a, .ref b1, rfl, .inl ⟨_, .inr "spaces", .inl ha, rfl, rfl⟩, b1, none, rfl, .inl ⟨_, .inl n, .inl hk, rfl, hz.symm⟩, _, rfl, chooseF rfl ?_⟩
        have := q H (Same.refl _)
        rw [show refW st h key (.make n z) = (if (lookI st.sp n).isSome = true then "exists" else "" : Str) from rfl, l0, if_neg (by simp)] at this
        exact this
      · refine ⟨_, rfl, _, rfl, a, .ref b1, rfl, .inl ⟨_, .inr "spaces", .inl ha, rfl, rfl⟩, b1, some z', rfl, .inl ⟨_, .inl n, .inl hk, rfl, hz.symm⟩, _, rfl, chooseT rfl ?_⟩
        have := q H (Same.refl _)
        rw [show refW st h key (.make n z) = (if (lookI st.sp n).isSome = true then "exists" else "" : Str) from rfl, l0, if_pos (by simp)] at this; exact this
    refine ⟨_, rfl, rfl, _, rfl, chooseF (str_eqF e2) ?_⟩
    rw [cm_in e1 e2] at q
    rcases pr_look (R := SpcAt K H) eI_inj (k := nsC cm) pr with ⟨l0, hz⟩ | ⟨sp, z', l0, hz, az⟩
    · refine ⟨_, rfl, _, rfl, a, .ref b1, rfl, .inl ⟨_, .inr "spaces", .inl ha, rfl, rfl⟩, b1, none, rfl, .inl ⟨_, .inl (nsC cm), .inl hk, rfl, hz.symm⟩, _, rfl, chooseT rfl ?_⟩
      have := q H (Same.refl _)
      unfold inW at this
      rw [l0] at this; exact this
    refine ⟨_, rfl, _, rfl, a, .ref b1, rfl, .inl ⟨_, .inr "spaces", .inl ha, rfl, rfl⟩, b1, some z', rfl, .inl ⟨_, .inl (nsC cm), .inl hk, rfl, hz.symm⟩, _, rfl, chooseF rfl ?_⟩
    refine ⟨_, rfl, _, rfl, a, st, nsC cm, rfl, SA, fun e => (by rw [e] at l0; cases l0), fun s v hs hv => ?_⟩
    obtain rfl : s = sp := by rw [hs] at l0; exact Option.some.inj l0
    obtain ⟨t, cc, fv, rfl, ht, hcc, hf⟩ := hv
    refine ⟨t, _, rfl, ht, rfl, _, _, rfl, _, _, rfl, _, _, rfl, rfl, ?_⟩
    refine ⟨_, rfl, _, rfl, _, rfl, _, rfl, fv, h, key, c, cmS cm, cmI cm, s.rg, s.hd, rfl, toFe hf, W.kn _ (look_mem hs), hc, cm_ok e1 e2 oc, fun H1 s1 => ?_⟩
    have q1 : ∀ H', Same H1 H' → Q (.str (inW st h key cm)) H' := fun H' s' => q H' (s1.trans s')
    have ei : inW st h key cm = if Fe.due s.rg s.hd h key (cmS cm) (cmI cm) = "" then tailW st s cm else Fe.due s.rg s.hd h key (cmS cm) (cmI cm) := by unfold inW; rw [hs]
    rw [ei] at q1
    generalize Fe.due s.rg s.hd h key (cmS cm) (cmI cm) = w at q1
    by_cases ew : ¬ w = ""
    · refine ⟨_, rfl, rfl, _, rfl, chooseT (by rw [str_eqF ew]; rfl) ⟨_, rfl, ?_⟩⟩
      rw [if_neg ew] at q1
      exact q1 H1 (Same.refl _)
    obtain rfl : w = "" := Classical.not_not.mp ew
    rw [if_pos rfl] at q1
    refine ⟨_, rfl, rfl, _, rfl, chooseF (by rw [str_eqT]; rfl) ?_⟩
    have SA1 := SA.same s1
    have et : tailW st s cm = (if lostC st cm = true then ("none" : Str) else if farC s cm = true then ("place" : Str) else if heldC st cm = true then ("held" : Str) else ("" : Str)) := rfl
    refine ⟨fun σ' G => σ' = [some (.ref a), some (.int h), some (Fe.optI key), some (.ref c), some (.str (cmS cm)), some (.int (nsC cm)), some (.int s.z), some (.ref cc), some fv, some (.str ""), none] ∧ Same H1 G ∧ lostC st cm = false, ?_, ?_⟩
    · refine ⟨_, rfl, by show 2 ≤ sizeLine; decide, fun t1 ht1 => ⟨t1, _, rfl, .inr (SqT.of upd_same), rfl, rfl, _, rfl, ?_⟩⟩
      have u1 := same_new (o := .tup [V.str "view", V.str "drop"]) ht1
      rcases cm_sm cm with ⟨m0, mi⟩ | ⟨m, m0, mi, mc⟩
      · exact chooseF (Fe.inV_str.trans mi) (chooseF rfl ⟨rfl, u1, by unfold lostC; rw [m0]⟩)
      · refine chooseT (Fe.inV_str.trans mi) ?_
        generalize upd H1 t1 (.tup [V.str "view", V.str "drop"]) = G1 at u1
        have s2 := s1.trans u1
        refine ⟨_, rfl, _, rfl, c, _, _, _, rfl, rfl, SqT_same s2 hc, atI_nat (j := 2) mc, by show 2 ≤ sizeLine; decide, fun t2 ht2 => ?_⟩
        have u2 := same_new (o := .tup [V.int (nsC cm), V.int m]) ht2
        have e2' : (upd G1 t2 (.tup [V.int (nsC cm), V.int m])) t2 = some (.tup [V.int (nsC cm), V.int m]) := upd_same
        generalize upd G1 t2 (.tup [V.int (nsC cm), V.int m]) = G2 at u2 e2'
        have s3 := s2.trans u2
        rcases pr_look (R := SnpAt K H) eP_inj (k := (nsC cm, m)) pr2 with ⟨l1, hz1⟩ | ⟨cs, z1, l1, hz1, _⟩
        · refine ⟨_, rfl, a, .ref b2, rfl, .inl ⟨_, .inr "snaps", .inl (s3 _ _ ha), rfl, rfl⟩, b2, none, rfl, .inr ⟨_, eP (nsC cm, m), t2, .inl (s3 _ _ hk2), rfl, e2', hz1.symm⟩, _, rfl, chooseT rfl ?_⟩
          have el : lostC st cm = true := by unfold lostC; rw [m0]; show (lookI st.sn (nsC cm, m)).isNone = true; rw [l1]; rfl
          rw [et, if_pos el] at q1
          exact q1 G2 (u1.trans u2)
        · refine ⟨_, rfl, a, .ref b2, rfl, .inl ⟨_, .inr "snaps", .inl (s3 _ _ ha), rfl, rfl⟩, b2, some z1, rfl, .inr ⟨_, eP (nsC cm, m), t2, .inl (s3 _ _ hk2), rfl, e2', hz1.symm⟩, _, rfl, chooseF rfl ?_⟩
          exact ⟨rfl, u1.trans u2, by unfold lostC; rw [m0]; show (lookI st.sn (nsC cm, m)).isNone = false; rw [l1]; rfl⟩
    rintro σ' G1 ⟨rfl, s2, el⟩
    rw [et, if_neg (by rw [el]; exact Bool.false_ne_true)] at q1
    have s12 := s1.trans s2
    obtain ⟨ns, hm, p0, p1⟩ := cm_parts cm
    obtain ⟨aT, ka, ta, sa⟩ := R.fT _ hm
    refine ⟨fun σ' G => σ' = [some (.ref a), some (.int h), some (Fe.optI key), some (.ref c), some (.str (cmS cm)), some (.int (nsC cm)), some (.int s.z), some (.ref cc), some fv, some (.str ""), none] ∧ G1 = G ∧ farC s cm = false, ?_, ?_⟩
    · refine ⟨_, rfl, aP, _, .ref aT, rfl, rfl, ka, aT, _, rfl, .inr (sa G1), rfl, Fe.flat_strs, _, rfl, ?_⟩
      cases hp : plC cm with
      | none =>
        have : Fe.strIn "place" ns = false := by
          cases e : Fe.strIn "place" ns with
          | false => rfl
          | true =>
            obtain ⟨y, hy, ey⟩ := List.any_eq_true.mp e
            exact absurd (of_decide_eq_true ey ▸ hy) (p0 hp)
        exact chooseF (Fe.inV_str.trans this) (chooseF rfl ⟨rfl, rfl, by unfold farC; rw [hp]⟩)
      | some p =>
        obtain ⟨i1, _⟩ := p1 p hp
        have : Fe.strIn "place" ns = true := List.any_eq_true.mpr ⟨_, i1, decide_eq_true rfl⟩
        refine chooseT (Fe.inV_str.trans this) ?_
        refine ⟨_, rfl, c, cm, p, rfl, SqT_same s12 hc, hp, _, rfl, _, _, rfl, rfl, _, rfl, ?_⟩
        have ef : farC s cm = decide (s.z ≤ p) := by unfold farC; rw [hp]
        by_cases hle : s.z ≤ p
        · refine chooseT (decide_eq_true hle) ?_
          rw [if_pos (by rw [ef]; exact decide_eq_true hle)] at q1
          exact q1 G1 s2
        · exact chooseF (decide_eq_false hle) ⟨rfl, rfl, by rw [ef]; exact decide_eq_false hle⟩
    rintro σ' _ ⟨rfl, rfl, ef⟩
    rw [if_neg (by rw [ef]; exact Bool.false_ne_true)] at q1
    refine ⟨_, rfl, rfl, _, rfl, ?_⟩
    rcases cm_rem cm with ⟨n, rfl⟩ | ⟨er, eh⟩
    · refine chooseT rfl ?_
      refine ⟨_, rfl, ?_⟩
      refine keepF_te (kdT K) (d := b2) (kvs := kvs2) headI (fun H1 R e r => ?_) (s12 _ _ hk2) (by rw [Paired.length pr2]; exact W.sn) (fun x k H' Q' hkk hat q' => ?_) fun D H' s3 hD => ?_
      · exact ⟨_, rfl, a, .ref b2, rfl, .inl ⟨_, .inr "snaps", .inl (e _ _ (fun z => by rw [z] at ha; rw [hk2] at ha; cases ha) (s12 _ _ ha)), rfl, rfl⟩, r⟩
      · obtain ⟨b, rfl, hb⟩ := hat
        obtain ⟨qq, hq, rfl⟩ : ∃ q : (Int × Int) × Cells, q ∈ st.sn ∧ k = eP q.1 := by
          rw [pr_keys (R := SnpAt K H) pr2] at hkk
          obtain ⟨q, h1, h2⟩ := List.mem_map.mp hkk
          exact ⟨q, h1, h2.symm⟩
        exact ⟨_, rfl, b, _, _, _, rfl, rfl, SqT.of hb, atI_nat (j := 0) rfl, q'⟩
      · have em : (kvs2.map fun p => headI p.1) = (st.sn.map fun q => q.1.1).map V.int := by
          have : kvs2.map (fun p => headI p.1) = (kvs2.map (·.1)).map headI := by rw [List.map_map]; rfl
          rw [this, pr_keys (R := SnpAt K H) pr2, List.map_map, List.map_map]; rfl
        rw [em] at hD
        refine ⟨D, _, rfl, .inl (SqL.of hD), rfl, Fe.flat_ints, _, rfl, ?_⟩
        have eh : inV (.int n) ((st.sn.map fun q => q.1.1).map V.int) = heldC st (.remove n) := by
          rw [inV_ints, List.any_map]; rfl
        by_cases eb : heldC st (.remove n) = true
        · rw [if_pos eb] at q1
          exact chooseT (eh.trans eb) (q1 _ (s2.trans s3))
        · rw [if_neg eb] at q1
          exact chooseF (eh.trans (by simpa using eb)) (q1 _ (s2.trans s3))
    · refine chooseF (str_eqF er) (chooseF rfl ?_)
      rw [if_neg (by rw [eh]; exact Bool.false_ne_true)] at q1
      exact q1 G1 s2
end
end Sg

set_option Elab.async false
set_option linter.all false
set_option maxRecDepth 100000
set_option maxHeartbeats 4000000
namespace Sg
open PySem PySem.Spec PyProof.Rows L2
/-! ### the value and the fields that are due -/
theorem missC {K : PySem.W.Frag} {H : Hp} {c : Addr} {cm : Cm} {n : Nat} {w : Str} {t : TPts} {Q : Option (List (Nat × V)) → Prop} (hc : CmdAt K H c cm) (h : ¬ cmS cm = w) (q : Q none) : mSeq K n (mCons (mStr w) t) (.ref c) H Q :=
  ⟨c, _, rfl, hc, fun _ => ⟨_, _, rfl, _, rfl, by rw [if_neg h]; exact q⟩, fun _ => q⟩
theorem hitC {K : PySem.W.Frag} {H : Hp} {c : Addr} {cm : Cm} {w : Str} {t : TPts} {Q : Option (List (Nat × V)) → Prop} (hc : CmdAt K H c cm) (h : cmS cm = w) (q : t (cmI cm) H fun o' => match o' with
  | none => Q none
  | some cs => Q (some cs)) : mSeq K ((cmI cm).length + 1) (mCons (mStr w) t) (.ref c) H Q :=
  ⟨c, _, rfl, hc, fun _ => ⟨_, _, rfl, _, rfl, by rw [if_pos h]; exact q⟩, fun z => absurd rfl z⟩
theorem cm_read {cm : Cm} (h : cmS cm = "read") : ∃ n p, cm = .read n p := by
  cases cm with
  | read n p => exact ⟨n, p, rfl⟩
  | _ => dsimp only [cmS] at h; exact absurd h (by decide +kernel)
theorem cm_view {cm : Cm} (h : cmS cm = "view") : ∃ n m p, cm = .view n m p := by
  cases cm with
  | view n m p => exact ⟨n, m, p, rfl⟩
  | _ => dsimp only [cmS] at h; exact absurd h (by decide +kernel)
theorem cm_snap {cm : Cm} (h : cmS cm = "snap") : ∃ n, cm = .snap n := by
  cases cm with
  | snap n => exact ⟨n, rfl⟩
  | _ => dsimp only [cmS] at h; exact absurd h (by decide +kernel)
theorem cm_register {cm : Cm} (h : cmS cm = "register") : ∃ n, cm = .register n := by
  cases cm with
  | register n => exact ⟨n, rfl⟩
  | _ => dsimp only [cmS] at h; exact absurd h (by decide +kernel)
theorem cm_leave {cm : Cm} (h : cmS cm = "leave") : ∃ n, cm = .leave n := by
  cases cm with
  | leave n => exact ⟨n, rfl⟩
  | _ => dsimp only [cmS] at h; exact absurd h (by decide +kernel)
theorem cm_preempt {cm : Cm} (h : cmS cm = "preempt") : ∃ n v, cm = .preempt n v := by
  cases cm with
  | preempt n v => exact ⟨n, v, rfl⟩
  | _ => dsimp only [cmS] at h; exact absurd h (by decide +kernel)
theorem cm_trim {cm : Cm} (h : cmS cm = "trim") : ∃ n p, cm = .trim n p := by
  cases cm with
  | trim n p => exact ⟨n, p, rfl⟩
  | _ => dsimp only [cmS] at h; exact absurd h (by decide +kernel)
theorem cm_val {st : Sta} {h o : Int} {cm : Cm} (h1 : ¬ cmS cm = "read") (h2 : ¬ cmS cm = "view") (h3 : ¬ cmS cm = "snap") (h4 : ¬ cmS cm = "register") : valW st h o cm = none := by
  cases cm with
  | read n p => exact absurd rfl h1
  | view n m p => exact absurd rfl h2
  | snap n => exact absurd rfl h3
  | register n => exact absurd rfl h4
  | _ => rfl
theorem wstr {x y : Str} {R : Prop} (e : x = y) (h : decide (x = y) = false) : R := absurd e (of_decide_eq_false h)
section
variable {P : Program} {wd : World} {K : PySem.W.Frag} {mg : Str → Option Value} {base : Heap} {f fN fS fF fP fC fR fK fW fV aP aL CN CS : Addr} {fd fdN fdS fdF fdP fdC fdR fdK fdW fdV : FuncData}
theorem scValueDue : FnScope ["state", "host", "command", "order", "namespace", "place", "snapshot", "_", "fence", "present"] ["state", "host", "command", "order"] (defScope sValueDue) := ⟨rfl, rfl, rfl, by decide +kernel, rfl, by decide +kernel, by decide +kernel⟩
theorem ok_valueDue (F : Fun K "_value_due" "_value_due" sValueDue f fd) (GS : Def P wd K mg base (L2.CX P wd) "space_of" 2 ["state", "namespace"] (spSpaceOf K CN) fS fdS) (GC : Def P wd K mg base (L2.CX P wd) "read_cell" 3 ["state", "namespace", "place"] (spReadCell K CN) fC fdC)
    (GR : Def P wd K mg base (L2.CX P wd) "read_snapshot" 2 ["state", "namespace", "number", "place"] (spReadSnap K CN) fR fdR) (GK : Def P wd K mg base CX0 "key_of" 1 ["fence", "host"] (Fe.spKeyOf K) fK fdK) : FnOk P wd K mg base CX0 4 f fd ["state", "host", "command", "order"] (spValueDue K) := by
  refine F.ok scValueDue (fun vs H Q E h => ?_) (fun cdv A outer s H vs Q E hr h => ?_)
  · obtain ⟨a, st, h, c, cm, o, rfl, _⟩ := h
    rfl
  · obtain ⟨a, st, h, c, cm, o, rfl, SA, W, hc, hs, hv, q⟩ := h
    have hr1 : Room 1 _ := hr.mono (by decide)
    have hr2 : Room 2 _ := hr.mono (by decide)
    have hr3 : Room 3 _ := hr
    refine ⟨_, (pss_cons (ps_match (pv 2) (pcs_cons scValueDue.nd (mp_seq (n := 3) rfl (mps_cons mp_str (mps_cons (mp_cap (i := 4) rfl (Or.inl rfl)) (mps_cons (mp_cap (i := 5) rfl (Or.inl rfl)) mps_nil))))
        (pss_one (ps_ret (pe_call GC.ok hr3 (by rfl) GC.mg GC.kp GC.bd .nil passL (pa_cons (pv 0) (pa_cons (pv 4) (pa_cons (pv 5) pa_nil))))))
        (pcs_cons scValueDue.nd (mp_seq (n := 4) rfl (mps_cons mp_str (mps_cons (mp_cap (i := 4) rfl (Or.inl rfl)) (mps_cons (mp_cap (i := 6) rfl (Or.inl rfl)) (mps_cons (mp_cap (i := 5) rfl (Or.inl rfl)) mps_nil)))))
        (pss_one (ps_ret (pe_call GR.ok hr2 (by rfl) GR.mg GR.kp GR.bd .nil passL (pa_cons (pv 0) (pa_cons (pv 4) (pa_cons (pv 6) (pa_cons (pv 5) pa_nil)))))))
        (pcs_cons scValueDue.nd (mp_seq (n := 2) rfl (mps_cons mp_str (mps_cons mp_wild mps_nil)))
        (pss_one (ps_ret (pv 3)))
        (pcs_cons scValueDue.nd (mp_seq (n := 2) rfl (mps_cons mp_str (mps_cons (mp_cap (i := 4) rfl (Or.inl rfl)) mps_nil)))
        (pss_cons (ps_asg (pe_call GS.ok hr2 (by rfl) GS.mg GS.kp GS.bd .nil passL (pa_cons (pv 0) (pa_cons (pv 4) pa_nil))) (pg_tup (by rfl) (pgs_cons (pg_name (i := 7) scValueDue.nd rfl (Or.inl rfl)) (pgs_cons (pg_name (i := 7) scValueDue.nd rfl (Or.inl rfl)) (pgs_cons (pg_name (i := 8) scValueDue.nd rfl (Or.inl rfl)) L2.pgs_nil)))))
      (pss_cons (ps_set (i := 9) scValueDue.nd rfl (Or.inl rfl) (pe_call GK.ok hr1 (by rfl) GK.mg GK.kp GK.bd .nil pass0 (pa_cons (pv 8) (pa_cons (pv 1) pa_nil))))
      (pss_one (ps_ret (pe_ifExp (pt_cmpR op_isN (pv 9) pe_non (nomark _)) (pv 3) (pv 9))))))
        pcs_nil)))))
      (pss_one (ps_ret pe_non))), ?_⟩
    refine ⟨_, rfl, ?_⟩
    by_cases e1 : cmS cm = "read"
    · obtain ⟨n, p, rfl⟩ := cm_read e1
      obtain ⟨s, ls⟩ := hs (fun e => wstr (x := "read") e (by decide +kernel)) (fun e => wstr (x := "read") e (by decide +kernel))
      have ls' : lookI st.sp n = some s := ls
      refine hitC (cm := .read n p) hc rfl ⟨_, _, rfl, _, _, rfl, ?_⟩
      refine ⟨_, rfl, _, rfl, _, rfl, a, st, n, p, rfl, SA, fun e => (by rw [e] at ls'; cases ls'), fun s' es => ?_⟩
      obtain rfl : s' = s := by rw [es] at ls'; exact Option.some.inj ls'
      have := q H (Same.refl _)
      rw [show valW st h o (.read n p) = (lookI st.sp n).bind fun s => lookI s.cs p from rfl, ls'] at this
      exact this
    refine missC hc e1 ?_
    by_cases e2 : cmS cm = "view"
    · obtain ⟨n, m, p, rfl⟩ := cm_view e2
      obtain ⟨cs, ls⟩ := hv n m p rfl
      refine hitC (cm := .view n m p) hc rfl ⟨_, _, rfl, _, _, rfl, _, _, rfl, ?_⟩
      refine ⟨_, rfl, _, rfl, _, rfl, _, rfl, a, st, n, m, p, rfl, SA, fun e => (by rw [e] at ls; cases ls), fun cs' es => ?_⟩
      obtain rfl : cs' = cs := by rw [es] at ls; exact Option.some.inj ls
      intro H' s'
      have := q H' s'
      rw [show valW st h o (.view n m p) = (lookI st.sn (n, m)).bind fun cs => lookI cs p from rfl, ls] at this
      exact this
    refine missC hc e2 ?_
    by_cases e3 : cmS cm = "snap"
    · obtain ⟨n, rfl⟩ := cm_snap e3
      refine hitC (cm := .snap n) hc rfl ⟨_, _, rfl, ?_⟩
      exact ⟨_, rfl, q H (Same.refl _)⟩
    refine missC hc e3 ?_
    by_cases e4 : cmS cm = "register"
    · obtain ⟨n, rfl⟩ := cm_register e4
      obtain ⟨s, ls⟩ := hs (fun e => wstr (x := "register") e (by decide +kernel)) (fun e => wstr (x := "register") e (by decide +kernel))
      have ls' : lookI st.sp n = some s := ls
      refine hitC (cm := .register n) hc rfl ⟨_, _, rfl, ?_⟩
      refine ⟨_, rfl, _, rfl, a, st, n, rfl, SA, fun e => (by rw [e] at ls'; cases ls'), fun s' v es hv' => ?_⟩
      obtain rfl : s' = s := by rw [es] at ls'; exact Option.some.inj ls'
      obtain ⟨t, cc, fv, rfl, ht, hcc, hf⟩ := hv'
      refine ⟨t, _, rfl, ht, rfl, _, _, rfl, _, _, rfl, _, _, rfl, rfl, ?_⟩
      refine ⟨_, rfl, _, rfl, fv, h, s'.rg, s'.hd, rfl, toFe hf, W.kn _ (look_mem es), fun H1 s1 => ?_⟩
      have q1 := q H1 s1
      rw [show valW st h o (.register n) = (lookI st.sp n).map fun s => (Fe.look s.rg h).getD o from rfl, ls'] at q1
      cases hl : Fe.look s'.rg h with
      | none =>
        refine ⟨_, rfl, rfl, _, rfl, ?_⟩
        rw [show (some s').map (fun s => (Fe.look s.rg h).getD o) = some ((Fe.look s'.rg h).getD o) from rfl, hl] at q1
        exact chooseT rfl ⟨_, rfl, q1⟩
      | some k =>
        refine ⟨_, rfl, rfl, _, rfl, ?_⟩
        rw [show (some s').map (fun s => (Fe.look s.rg h).getD o) = some ((Fe.look s'.rg h).getD o) from rfl, hl] at q1
        exact chooseF rfl ⟨_, rfl, q1⟩
    refine missC hc e4 ?_
    have := q H (Same.refl _)
    rw [cm_val e1 e2 e3 e4] at this
    exact this
theorem cut1 {x : V} {xs : List V} : cutV (x :: xs) (some 1) Option.none = xs := cut_drop (xs := x :: xs) (n := 1) (by simp)
theorem cm_rec (cm : Cm) : (Fe.strIn (cmS cm) ["read", "view", "flush"] = true ∧ ∀ st h, fldW st h cm = none) ∨ (Fe.strIn (cmS cm) ["read", "view", "flush"] = false ∧ ¬ cmS cm = "flush" ∧ (¬ cmS cm = "make" → ∀ st h, fldW st h cm = (lookI st.sp (nsC cm)).bind fun s => if trimN s cm = true then none else fldIn s h cm)) := by
  cases cm with
  | read n p => exact .inl ⟨(show Fe.strIn "read" ["read", "view", "flush"] = true by decide +kernel), fun _ _ => rfl⟩
  | view n m p => exact .inl ⟨(show Fe.strIn "view" ["read", "view", "flush"] = true by decide +kernel), fun _ _ => rfl⟩
  | flush => exact .inl ⟨(show Fe.strIn "flush" ["read", "view", "flush"] = true by decide +kernel), fun _ _ => rfl⟩
  | make n z => exact .inr ⟨(show Fe.strIn "make" ["read", "view", "flush"] = false by decide +kernel), (show ¬ ("make" : Str) = "flush" by decide +kernel), fun e => absurd rfl e⟩
  | remove n => exact .inr ⟨(show Fe.strIn "remove" ["read", "view", "flush"] = false by decide +kernel), (show ¬ ("remove" : Str) = "flush" by decide +kernel), fun _ _ _ => rfl⟩
  | write n p v => exact .inr ⟨(show Fe.strIn "write" ["read", "view", "flush"] = false by decide +kernel), (show ¬ ("write" : Str) = "flush" by decide +kernel), fun _ _ _ => rfl⟩
  | trim n p => exact .inr ⟨(show Fe.strIn "trim" ["read", "view", "flush"] = false by decide +kernel), (show ¬ ("trim" : Str) = "flush" by decide +kernel), fun _ _ _ => rfl⟩
  | snap n => exact .inr ⟨(show Fe.strIn "snap" ["read", "view", "flush"] = false by decide +kernel), (show ¬ ("snap" : Str) = "flush" by decide +kernel), fun _ _ _ => rfl⟩
  | drop n m => exact .inr ⟨(show Fe.strIn "drop" ["read", "view", "flush"] = false by decide +kernel), (show ¬ ("drop" : Str) = "flush" by decide +kernel), fun _ _ _ => rfl⟩
  | register n => exact .inr ⟨(show Fe.strIn "register" ["read", "view", "flush"] = false by decide +kernel), (show ¬ ("register" : Str) = "flush" by decide +kernel), fun _ _ _ => rfl⟩
  | leave n => exact .inr ⟨(show Fe.strIn "leave" ["read", "view", "flush"] = false by decide +kernel), (show ¬ ("leave" : Str) = "flush" by decide +kernel), fun _ _ _ => rfl⟩
  | reserve n w => exact .inr ⟨(show Fe.strIn "reserve" ["read", "view", "flush"] = false by decide +kernel), (show ¬ ("reserve" : Str) = "flush" by decide +kernel), fun _ _ _ => rfl⟩
  | release n => exact .inr ⟨(show Fe.strIn "release" ["read", "view", "flush"] = false by decide +kernel), (show ¬ ("release" : Str) = "flush" by decide +kernel), fun _ _ _ => rfl⟩
  | preempt n v => exact .inr ⟨(show Fe.strIn "preempt" ["read", "view", "flush"] = false by decide +kernel), (show ¬ ("preempt" : Str) = "flush" by decide +kernel), fun _ _ _ => rfl⟩
theorem trim_no {s : Spc} {cm : Cm} (h : ¬ cmS cm = "trim") : trimN s cm = false := by
  cases cm with
  | trim n p => exact absurd rfl h
  | _ => rfl
theorem fld_else {s : Spc} {h : Int} {cm : Cm} (e : Fe.idle s.rg s.hd h (cmS cm) (cmI cm) = false) (h1 : ¬ cmS cm = "leave") (h2 : ¬ cmS cm = "preempt") : fldIn s h cm = some (cmI cm) := by
  unfold fldIn
  rw [e, if_neg Bool.false_ne_true]
  cases cm with
  | leave n => exact absurd rfl h1
  | preempt n v => exact absurd rfl h2
  | _ => rfl
theorem oV_non {o : Option Int} : decide (oV o = V.non) = o.isNone := by cases o <;> rfl
theorem scFieldsDue : FnScope ["state", "host", "command", "word", "_", "fence", "namespace", "victim"] ["state", "host", "command"] (defScope sFieldsDue) := ⟨rfl, rfl, rfl, by decide +kernel, rfl, by decide +kernel, by decide +kernel⟩
theorem ok_fieldsDue (F : Fun K "_fields_due" "_fields_due" sFieldsDue f fd) (R : PX K wd mg aP aL) (GS : Def P wd K mg base (L2.CX P wd) "space_of" 2 ["state", "namespace"] (spSpaceOf K CN) fS fdS) (GC : Def P wd K mg base (L2.CX P wd) "read_cell" 3 ["state", "namespace", "place"] (spReadCell K CN) fC fdC)
    (GN : Def P wd K mg base CX0 "changes_nothing" 2 ["fence", "host", "command"] (Fe.spNothing K) fN fdN) (GW : Def P wd K mg base CX0 "holder_way" 1 ["fence", "host"] (Fe.spWay K) fW fdW) : FnOk P wd K mg base CX0 4 f fd ["state", "host", "command"] (spFieldsDue K) := by
  refine F.ok scFieldsDue (fun vs H Q E h => ?_) (fun cdv A outer s H vs Q E hr h => ?_)
  · obtain ⟨a, st, h, c, cm, rfl, _⟩ := h
    rfl
  · obtain ⟨a, st, h, c, cm, rfl, SA, W, hc, oc, hs, q⟩ := h
    have hr1 : Room 1 _ := hr.mono (by decide)
    have hr2 : Room 2 _ := hr.mono (by decide)
    have hr3 : Room 3 _ := hr
    refine ⟨_, (pss_cons (ps_set (i := 3) scFieldsDue.nd rfl (Or.inl rfl) (pe_ix ix_tup (pv 2) pe_int (fun _ _ => rfl)))
      (pss_cons (ps_if (pt_cmpR op_eq (pv 3) pe_str (nomark _))
      (pss_one (ps_ret (pe_slice sl_any (pv 2) (po_some pe_int) po_none))) pss_nil)
      (Evl.pss_cut (ps_if (PW.pt (pw_or (pt_cmpR op_in_seq (pv 3) (pe_glob (v := .ref aL) (by rfl) R.gL rfl) (by rfl)) (pw_or1 (PW.pt (pw_and (pt_cmpR op_eq (pv 3) pe_str (nomark _)) (pw_and1 (pt_cmpR op_isN (pe_call GC.ok hr3 (by rfl) GC.mg GC.kp GC.bd .nil passL (pa_cons (pv 0) (pa_cons (pe_ix ix_tup (pv 2) pe_int (fun _ _ => rfl)) (pa_cons (pe_ix ix_tup (pv 2) pe_int (fun _ _ => rfl)) pa_nil)))) pe_non (nomark _))))))))
      (pss_one (ps_ret pe_non)) pss_nil)
      (pss_cons (ps_asg (pe_call GS.ok hr2 (by rfl) GS.mg GS.kp GS.bd .nil passL (pa_cons (pv 0) (pa_cons (pe_ix ix_tup (pv 2) pe_int (fun _ _ => rfl)) pa_nil))) (pg_tup (by rfl) (pgs_cons (pg_name (i := 4) scFieldsDue.nd rfl (Or.inl rfl)) (pgs_cons (pg_name (i := 4) scFieldsDue.nd rfl (Or.inl rfl)) (pgs_cons (pg_name (i := 5) scFieldsDue.nd rfl (Or.inl rfl)) L2.pgs_nil)))))
      (pss_cons (ps_if (pt_val (pe_call GN.ok hr2 (by rfl) GN.mg GN.kp GN.bd .nil pass0 (pa_cons (pv 5) (pa_cons (pv 1) (pa_cons (pv 2) pa_nil)))))
      (pss_one (ps_ret pe_non)) pss_nil)
      (pss_cons (ps_match (pv 2) (pcs_cons scFieldsDue.nd (mp_seq (n := 2) rfl (mps_cons mp_str (mps_cons (mp_cap (i := 6) rfl (Or.inl rfl)) mps_nil)))
        (pss_one (ps_ret (pe_tup (pa_cons (pv 6) (pa_cons (pe_cmpR op_notN (pe_call GW.ok hr1 (by rfl) GW.mg GW.kp GW.bd .nil pass0 (pa_cons (pv 5) (pa_cons (pv 1) pa_nil))) pe_non (nomark _)) pa_nil)))))
        (pcs_cons scFieldsDue.nd (mp_seq (n := 3) rfl (mps_cons mp_str (mps_cons (mp_cap (i := 6) rfl (Or.inl rfl)) (mps_cons (mp_cap (i := 7) rfl (Or.inl rfl)) mps_nil))))
        (pss_one (ps_ret (pe_tup (pa_cons (pv 6) (pa_cons (pv 7) (pa_cons (pe_call GW.ok hr1 (by rfl) GW.mg GW.kp GW.bd .nil pass0 (pa_cons (pv 5) (pa_cons (pv 7) pa_nil))) pa_nil))))))
        pcs_nil)))
      (pss_one (ps_ret (pe_slice sl_any (pv 2) (po_some pe_int) po_none))))))))), ?_⟩
    refine ⟨_, rfl, c, _, _, _, rfl, rfl, hc, atI_nat (j := 0) rfl, _, rfl, rfl, _, rfl, ?_⟩
    by_cases e0 : cmS cm = "make"
    · refine chooseT (decide_eq_true (by rw [e0])) ?_
      obtain ⟨n, z, rfl⟩ := cm_make e0
      refine ⟨_, rfl, _, rfl, c, _, rfl, hc, fun p H' s' hp => ?_⟩
      rw [cut1] at hp
      exact q _ H' s' ⟨p, rfl, hp⟩
    refine chooseF (str_eqF e0) ?_
    have er : ∀ b, Fe.strIn (cmS cm) ["read", "view", "flush"] = b → inV (.str (cmS cm)) ((["read", "view", "flush"] : List Str).map V.str) = b := fun b e => Fe.inV_str.trans e
    refine ⟨fun σ' G => σ' = [some (.ref a), some (.int h), some (.ref c), some (.str (cmS cm)), none, none, none, none] ∧ H = G ∧ ∃ s, lookI st.sp (nsC cm) = some s ∧ ¬ cmS cm = "flush" ∧ trimN s cm = false ∧ fldW st h cm = fldIn s h cm, ?_, ?_⟩
    · refine ⟨_, rfl, aL, _, rfl, .inr (R.tL H), rfl, Fe.flat_strs, _, rfl, ?_⟩
      rcases cm_rec cm with ⟨y, fn⟩ | ⟨y, nf, fn⟩
      · refine chooseT (er _ y) (chooseT rfl ?_)
        exact q _ H (Same.refl _) (by rw [fn]; rfl)
      obtain ⟨s, ls⟩ := hs nf e0
      have fn := fn e0 st h
      rw [ls] at fn
      have fn : fldW st h cm = if trimN s cm = true then none else fldIn s h cm := fn
      refine chooseF (er _ y) ⟨_, rfl, rfl, _, rfl, ?_⟩
      by_cases e1 : cmS cm = "trim"
      · refine chooseT (decide_eq_true (by rw [e1])) ?_
        obtain ⟨n, p, rfl⟩ := cm_trim e1
        refine ⟨_, rfl, _, rfl, c, _, _, _, rfl, rfl, hc, atI_nat (j := 1) rfl, _, rfl, c, _, _, _, rfl, rfl, hc, atI_nat (j := 2) rfl, ?_⟩
        refine ⟨a, st, n, p, rfl, SA, fun e => (by rw [show nsC (.trim n p) = n from rfl, e] at ls; cases ls), fun s' es => ⟨rfl, _, rfl, ?_⟩⟩
        obtain rfl : s' = s := by rw [show nsC (.trim n p) = n from rfl, es] at ls; exact Option.some.inj ls
        rw [oV_non]
        cases ec : (lookI s'.cs p).isNone with
        | true =>
          refine chooseT rfl ?_
          rw [show trimN s' (.trim n p) = (lookI s'.cs p).isNone from rfl, ec, if_pos rfl] at fn
          exact q _ H (Same.refl _) (by rw [fn]; rfl)
        | false =>
          rw [show trimN s' (.trim n p) = (lookI s'.cs p).isNone from rfl, ec, if_neg Bool.false_ne_true] at fn
          exact chooseF rfl ⟨rfl, rfl, s', ls, nf, ec, fn⟩
      · refine chooseF (str_eqF e1) (chooseF rfl ?_)
        have := trim_no (s := s) e1
        rw [this, if_neg Bool.false_ne_true] at fn
        exact ⟨rfl, rfl, s, ls, nf, this, fn⟩
    rintro σ' _ ⟨rfl, rfl, s, ls, nf, tn, fn⟩
    rw [fn] at q
    clear fn
    obtain ⟨xs, ex⟩ := cm_ns nf
    refine ⟨_, rfl, _, rfl, c, _, _, _, rfl, rfl, hc, atI_nat (j := 1) (by rw [ex]; rfl), ?_⟩
    refine ⟨a, st, nsC cm, rfl, SA, fun e => (by rw [e] at ls; cases ls), fun s' v es hv' => ?_⟩
    obtain rfl : s' = s := by rw [es] at ls; exact Option.some.inj ls
    obtain ⟨t, cc, fv, rfl, ht, hcc, hf⟩ := hv'
    refine ⟨t, _, rfl, ht, rfl, _, _, rfl, _, _, rfl, _, _, rfl, rfl, ?_⟩
    refine ⟨_, rfl, _, rfl, _, rfl, fv, h, c, cmS cm, cmI cm, s'.rg, s'.hd, rfl, toFe hf, W.kn _ (look_mem es), hc, cm_ok nf e0 oc, fun H1 s1 => ⟨_, rfl, ?_⟩⟩
    cases ei : Fe.idle s'.rg s'.hd h (cmS cm) (cmI cm) with
    | true =>
      refine chooseT rfl ?_
      refine q _ H1 s1 ?_
      unfold fldIn
      rw [ei, if_pos rfl]; rfl
    | false =>
      refine chooseF rfl ⟨_, rfl, ?_⟩
      have hc1 : CmdAt K H1 c cm := SqT_same s1 hc
      have hf1 : Fe.FenceAt K H1 fv s'.rg s'.hd := (toFe hf).tk (TK.of s1)
      by_cases e1 : cmS cm = "leave"
      · obtain ⟨n, rfl⟩ := cm_leave e1
        refine hitC (cm := .leave n) hc1 rfl ⟨_, _, rfl, ?_⟩
        refine ⟨_, rfl, _, rfl, _, rfl, fv, h, s'.rg, s'.hd, rfl, hf1, rfl, ?_⟩
        refine ⟨by show 2 ≤ sizeLine; decide, fun p hp => ?_⟩
        refine q _ _ (s1.trans (same_new hp)) ?_
        unfold fldIn
        rw [ei, if_neg Bool.false_ne_true]
        exact ⟨p, rfl, SqT.of upd_same⟩
      refine missC hc1 e1 ?_
      by_cases e2 : cmS cm = "preempt"
      · obtain ⟨n, v, rfl⟩ := cm_preempt e2
        refine hitC (cm := .preempt n v) hc1 rfl ⟨_, _, rfl, _, _, rfl, ?_⟩
        refine ⟨_, rfl, _, rfl, _, rfl, _, rfl, fv, v, s'.rg, s'.hd, rfl, hf1, ?_⟩
        refine ⟨by show 3 ≤ sizeLine; decide, fun p hp => ?_⟩
        refine q _ _ (s1.trans (same_new hp)) ?_
        unfold fldIn
        rw [ei, if_neg Bool.false_ne_true]
        exact ⟨p, rfl, SqT.of upd_same⟩
      refine missC hc1 e2 ?_
      rw [fld_else ei e1 e2] at q
      refine ⟨_, rfl, _, rfl, c, _, rfl, hc1, fun p H' s' hp => ?_⟩
      rw [cut1] at hp
      exact q _ H' (s1.trans s') ⟨p, rfl, hp⟩
end
end Sg

set_option Elab.async false
set_option linter.all false
set_option maxRecDepth 100000
set_option maxHeartbeats 4000000
namespace Sg
open PySem PySem.Spec PyProof.Rows L2
/-! ### the answer that is due -/
theorem ns_e {x : Str} (h : decide (x = ("" : Str)) = false) {R : Prop} (e : x = ("" : Str)) : R := absurd e (of_decide_eq_false h)
theorem ref_sp {st : Sta} {h : Int} {key : Option Int} {cm : Cm} (e : refW st h key cm = "") (h1 : cmS cm ≠ "flush") (h2 : cmS cm ≠ "make") : ∃ s, lookI st.sp (nsC cm) = some s := by
  rw [cm_in h1 h2] at e
  unfold inW at e
  cases hl : lookI st.sp (nsC cm) with
  | some s => exact ⟨s, rfl⟩
  | none => rw [hl] at e; exact ns_e (x := "none") (by decide +kernel) e
theorem ref_sn {st : Sta} {h : Int} {key : Option Int} {cm : Cm} (e : refW st h key cm = "") (n m p : Int) (ec : cm = .view n m p) : ∃ cs, lookI st.sn (n, m) = some cs := by
  subst ec
  have e' : inW st h key (.view n m p) = "" := e
  unfold inW at e'
  cases hl : lookI st.sp (nsC (.view n m p)) with
  | none => rw [hl] at e'; exact ns_e (x := "none") (by decide +kernel) e'
  | some s =>
    rw [hl] at e'
    by_cases ed : Fe.due s.rg s.hd h key (cmS (.view n m p)) (cmI (.view n m p)) = ""
    · have e2 : tailW st s (.view n m p) = "" := by rw [← e']; exact (if_pos ed).symm
      cases hn : lookI st.sn (n, m) with
      | some cs => exact ⟨cs, rfl⟩
      | none =>
        have : lostC st (.view n m p) = true := by show (lookI st.sn (n, m)).isNone = true; rw [hn]; rfl
        unfold tailW at e2
        rw [if_pos this] at e2
        exact ns_e (x := "none") (by decide +kernel) e2
    · have e2 : Fe.due s.rg s.hd h key (cmS (.view n m p)) (cmI (.view n m p)) = "" := by rw [← e']; exact (if_neg ed).symm
      exact absurd e2 ed
def AnsAt (K : PySem.W.Frag) (H : Hp) (t : Addr) (w : Str) (x : Option Int) (fs : Option (List V)) : Prop := ∃ t1 fv, H t = some (.tup [.ref t1, fv]) ∧ H t1 = some (.tup [.str w, oV x]) ∧ OptTup K H fv fs
def ansW (st : Sta) (h : Int) (key : Option Int) (cm : Cm) (o : Int) : Str × Option Int × Option (List V) := if refW st h key cm = "" then ("ok", valW st h o cm, fldW st h cm) else (refW st h key cm, none, none)
def spAnswer (K : PySem.W.Frag) : Sp := fun vs H Q _ => ∃ a st h key c cm o, vs = [.ref a, .int h, Fe.optI key, .ref c, .int o] ∧ StAt K H a st ∧ StW st ∧ CmdAt K H c cm ∧ okC cm ∧ ∀ t H', Same H H' → AnsAt K H' t (ansW st h key cm o).1 (ansW st h key cm o).2.1 (ansW st h key cm o).2.2 → Q (.ref t) H'
theorem OptTup.tk {K : PySem.W.Frag} {H H' : Hp} {v : V} {fs : Option (List V)} (h : OptTup K H v fs) (s : TK H H') : OptTup K H' v fs := by
  cases fs with
  | none => exact h
  | some xs => obtain ⟨t, e, ht⟩ := h; exact ⟨t, e, sqT_tk ht s⟩
section
variable {P : Program} {wd : World} {K : PySem.W.Frag} {mg : Str → Option Value} {base : Heap} {f fR fV fF : Addr} {fd fdR fdV fdF : FuncData}
theorem scAnswerDue : FnScope ["state", "host", "key", "command", "order", "word"] ["state", "host", "key", "command", "order"] (defScope sAnswerDue) := ⟨rfl, rfl, rfl, by decide +kernel, rfl, by decide +kernel, by decide +kernel⟩
theorem ok_answerDue (F : Fun K "answer_due" "answer_due" sAnswerDue f fd) (GR : Def P wd K mg base CX0 "_refusal_due" 5 ["state", "host", "key", "command"] (spRefDue K) fR fdR) (GV : Def P wd K mg base CX0 "_value_due" 4 ["state", "host", "command", "order"] (spValueDue K) fV fdV)
    (GF : Def P wd K mg base CX0 "_fields_due" 4 ["state", "host", "command"] (spFieldsDue K) fF fdF) : FnOk P wd K mg base CX0 6 f fd ["state", "host", "key", "command", "order"] (spAnswer K) := by
  refine F.ok scAnswerDue (fun vs H Q E h => ?_) (fun cdv A outer s H vs Q E hr h => ?_)
  · obtain ⟨a, st, h, key, c, cm, o, rfl, _⟩ := h
    rfl
  · obtain ⟨a, st, h, key, c, cm, o, rfl, SA, W, hc, oc, q⟩ := h
    have hr4 : Room 4 _ := hr.mono (by decide)
    have hr5 : Room 5 _ := hr
    refine ⟨_, (pss_cons (ps_set (i := 5) scAnswerDue.nd rfl (Or.inl rfl) (pe_call GR.ok hr5 (by rfl) GR.mg GR.kp GR.bd .nil pass0 (pa_cons (pv 0) (pa_cons (pv 1) (pa_cons (pv 2) (pa_cons (pv 3) pa_nil))))))
      (pss_cons (ps_if (pt_cmpR op_ne (pv 5) pe_str (nomark _))
      (pss_one (ps_ret (pe_tup (pa_cons (pe_tup (pa_cons (pv 5) (pa_cons pe_non pa_nil))) (pa_cons pe_non pa_nil))))) pss_nil)
      (pss_one (ps_ret (pe_tup (pa_cons (pe_tup (pa_cons pe_str (pa_cons (pe_call GV.ok hr4 (by rfl) GV.mg GV.kp GV.bd .nil pass0 (pa_cons (pv 0) (pa_cons (pv 1) (pa_cons (pv 3) (pa_cons (pv 4) pa_nil))))) pa_nil))) (pa_cons (pe_call GF.ok hr4 (by rfl) GF.mg GF.kp GF.bd .nil pass0 (pa_cons (pv 0) (pa_cons (pv 1) (pa_cons (pv 3) pa_nil)))) pa_nil))))))), ?_⟩
    refine ⟨_, rfl, _, rfl, _, rfl, _, rfl, a, st, h, key, c, cm, rfl, SA, W, hc, oc, fun H1 s1 => ?_⟩
    unfold ansW at q
    refine ⟨_, rfl, rfl, _, rfl, ?_⟩
    by_cases e : ¬ refW st h key cm = ""
    · rw [if_neg e] at q
      refine chooseT (by rw [str_eqF e]; rfl) ?_
      refine ⟨_, rfl, by show 2 ≤ sizeLine; decide, fun t1 h1 => ⟨by show 2 ≤ sizeLine; decide, fun t2 h2 => ?_⟩⟩
      have s2 := same_new (o := .tup [V.str (refW st h key cm), V.non]) h1
      have s3 := same_new (o := .tup [V.ref t1, V.non]) h2
      exact q t2 _ (s1.trans (s2.trans s3)) ⟨t1, _, upd_same, s3 _ _ upd_same, rfl⟩
    have e : refW st h key cm = "" := Classical.not_not.mp e
    rw [if_pos e] at q
    refine chooseF (by rw [e, str_eqT]; rfl) ?_
    refine ⟨_, rfl, _, rfl, _, rfl, _, rfl, a, st, h, c, cm, o, rfl, SA.same s1, W, SqT_same s1 hc, ref_sp e, ref_sn e, fun H2 s2 => ⟨by show 2 ≤ sizeLine; decide, fun t1 h1 => ?_⟩⟩
    have s3 := same_new (o := .tup [V.str "ok", oV (valW st h o cm)]) h1
    have s13 := s1.trans (s2.trans s3)
    have hT : (upd H2 t1 (.tup [V.str "ok", oV (valW st h o cm)])) t1 = some (.tup [V.str "ok", oV (valW st h o cm)]) := upd_same
    generalize upd H2 t1 (.tup [V.str "ok", oV (valW st h o cm)]) = H3 at s3 s13 hT
    refine ⟨_, rfl, _, rfl, _, rfl, a, st, h, c, cm, rfl, SA.same s13, W, SqT_same s13 hc, oc, ref_sp e, fun v H4 s4 hv => ⟨by show 2 ≤ sizeLine; decide, fun t2 h2 => ?_⟩⟩
    have s5 := same_new (o := .tup [V.ref t1, v]) h2
    exact q t2 _ (s13.trans (s4.trans s5)) ⟨t1, v, upd_same, (s4.trans s5) _ _ hT, hv.tk (TK.of s5)⟩
end
end Sg

set_option Elab.async false
set_option linter.all false
set_option maxRecDepth 100000
set_option maxHeartbeats 4000000
namespace Sg.Fe
open PySem PySem.Spec PyProof.Rows L2
/-- what is built-in of the names that the law's helpers use -/
structure LB (mg : Str → Option Value) : Prop where
  len : mg "len" = none
  abs : mg "abs" = none
  int : mg "int" = none
  list : mg "list" = none
  tuple : mg "tuple" = none
  sorted : mg "sorted" = none
  range : mg "range" = none
def Tape (K : PySem.W.Frag) (H : Hp) (p q : Addr) (ns : List Int) (i : Nat) (rest seed : Int) : Prop :=
  H p = some (.lst [.ref q, .int (i : Int), .int rest, .int seed]) ∧ SqL K H q (ns.map V.int) ∧ q ≠ p ∧ 0 ≤ rest ∧ 0 ≤ seed ∧ seed < 2147483647
def TapeAt (K : PySem.W.Frag) (H : Hp) (p q : Addr) : Prop := ∃ ns i rest seed, Tape K H p q ns i rest seed
theorem sqL_off {K : PySem.W.Frag} {H H' : Hp} {xs : List Addr} {a : Addr} {l : List V} (o : Off xs H H') (h : SqL K H a l) (n : a ∉ xs) : SqL K H' a l := by
  rcases h with (h | ⟨u, h⟩) | h
  · exact .inl (.inl (o _ _ h n))
  · exact .inl (.inr ⟨u, o _ _ h n⟩)
  · exact .inr h
theorem TapeAt.same {K : PySem.W.Frag} {H H' : Hp} {p q : Addr} (h : TapeAt K H p q) (s : Same H H') : TapeAt K H' p q := by
  obtain ⟨ns, i, rest, seed, h1, h2, h3⟩ := h
  exact ⟨ns, i, rest, seed, s _ _ h1, s.seq h2, h3⟩
/-- other things than the tape's lists were changed -/
theorem TapeAt.upd {K : PySem.W.Frag} {H : Hp} {p q d : Addr} {o u : HO} (h : TapeAt K H p q) (hd : H d = some o) (ho : ∀ xs, o ≠ .lst xs) (ho2 : ∀ ob v, o ≠ .frz ob v) : TapeAt K (upd H d u) p q := by
  obtain ⟨ns, i, rest, seed, h1, h2, h3⟩ := h
  refine ⟨ns, i, rest, seed, ?_, ?_, h3⟩
  · rw [upd_ne (ne_of h1 hd (fun z => ho _ z.symm))]; exact h1
  · rcases h2 with (h | ⟨v, h⟩) | h
    · exact .inl (.inl (by rw [upd_ne (ne_of h hd (fun z => ho _ z.symm))]; exact h))
    · exact .inl (.inr ⟨v, by rw [upd_ne (ne_of h hd (fun z => ho2 _ _ z.symm))]; exact h⟩)
    · exact .inr h
theorem TapeAt.off {K : PySem.W.Frag} {H H' : Hp} {p q : Addr} {xs : List Addr} (h : TapeAt K H p q) (o : Off xs H H') (hp : p ∉ xs) (hq : q ∉ xs) : TapeAt K H' p q := by
  obtain ⟨ns, i, rest, seed, h1, h2, h3⟩ := h
  exact ⟨ns, i, rest, seed, o _ _ h1 hp, sqL_off o h2 hq, h3⟩
theorem TapeAt.lst {K : PySem.W.Frag} {H : Hp} {p q : Addr} (h : TapeAt K H p q) : ∃ l, H p = some (.lst l) := by
  obtain ⟨ns, i, rest, seed, h1, _⟩ := h
  exact ⟨_, h1⟩
theorem TapeAt.tk {K : PySem.W.Frag} {H H' : Hp} {p q : Addr} (h : TapeAt K H p q) (o : Off [p] H H') : TK H H' := TK.off o fun x hx => by
  cases List.mem_singleton.mp hx
  exact .inl h.lst
def spNext (K : PySem.W.Frag) : Sp := fun vs H Q _ => ∃ (p q : Addr) (many : Int), vs = [.ref p, .int many] ∧ TapeAt K H p q ∧ 0 < many ∧ many < 1073741824 ∧
  ∀ r H', 0 ≤ r → r < many → Off [p] H H' → TapeAt K H' p q → Q (.int r) H'
section
variable {P : Program} {wrl : World} {K : PySem.W.Frag} {mg : Str → Option Value} {base : Heap} {f : Addr} {fd : FuncData}
theorem scNext : FnScope ["tape", "many", "rest", "cell"] ["tape", "many"] (defScope sNext) := ⟨rfl, rfl, rfl, by decide +kernel, rfl, by decide +kernel, by decide +kernel⟩
theorem ok_next (F : Fun K "_law_next" "_law_next" sNext f fd) (B : LB mg) : FnOk P wrl K mg base CX0 1 f fd ["tape", "many"] (spNext K) := by
  refine F.ok scNext (fun vs H Q E h => ?_) (fun cdv A outer s H vs Q E hr h => ?_)
  · obtain ⟨p, q, many, rfl, _⟩ := h
    rfl
  · obtain ⟨p, q, many, rfl, ⟨ns, i, rest, seed, h1, h2, hne, hre, hs0, hs1⟩, hm0, hm1, k⟩ := h
    refine ⟨_, pss_cons (ps_set (i := 2) scNext.nd rfl (Or.inl rfl) (pe_ix ix_list (pv 0) pe_int (fun _ _ => rfl)))
      (Evl.pss_cut (ps_if (pt_cmpR op_eq (pv 2) pe_int (nomark _))
          (pss_cons (ps_set (i := 3) scNext.nd rfl (Or.inl rfl) pe_int)
          (Evl.pss_cut (ps_if (pt_cmpR op_lt (pe_ix ix_list (pv 0) pe_int (fun _ _ => rfl)) (pe_callB call_len_seq (by rfl) B.len PySem.boot_len (pa_cons (pe_ix ix_list (pv 0) pe_int (fun _ _ => rfl)) pa_nil)) (nomark _))
              (pss_cons (ps_set (i := 3) scNext.nd rfl (Or.inl rfl) (pe_callB call_abs (by rfl) B.abs (by decide +kernel) (pa_cons (pe_callTy call_int1 (by rfl) B.int (by decide +kernel) (pa_cons (pe_ix ix_list (pe_ix ix_list (pv 0) pe_int (fun _ _ => rfl)) (pe_ix ix_list (pv 0) pe_int (fun _ _ => rfl)) (fun _ _ => rfl)) pa_nil)) pa_nil)))
              (pss_one (ps_asg (pe_op op_add (pe_ix ix_list (pv 0) pe_int (fun _ _ => rfl)) pe_int) (pg_sub (pv 0) pe_int set_list)))) pss_nil)
          (pss_cons (ps_set (i := 2) scNext.nd rfl (Or.inl rfl) (pv 3))
          (pss_one (ps_if (pt_cmpR op_lt (pv 3) (pe_op op_pow pe_int pe_int) (nomark _))
              (pss_cons (ps_asg (pe_op op_mod (pe_callTy call_int1 (by rfl) B.int (by decide +kernel) (pa_cons (pe_op op_add (pe_op op_add (pe_op op_mul (pe_ix ix_list (pv 0) pe_int (fun _ _ => rfl)) pe_int) (pe_op op_mul (pv 3) pe_int)) pe_int) pa_nil)) pe_int) (pg_sub (pv 0) pe_int set_list))
              (pss_one (ps_ret (pe_op op_mod (pe_op op_mod (pe_callTy call_int1 (by rfl) B.int (by decide +kernel) (pa_cons (pe_op op_mul (pe_op op_fdiv (pe_ix ix_list (pv 0) pe_int (fun _ _ => rfl)) pe_int) pe_int) pa_nil)) pe_int) (pv 1))))) pss_nil))))) pss_nil)
      (pss_cons (ps_asg (pe_op op_fdiv (pv 2) (pv 1)) (pg_sub (pv 0) pe_int set_list))
      (pss_one (ps_ret (pe_op op_mod (pe_callTy call_int1 (by rfl) B.int (by decide +kernel) (pa_cons (pv 2) pa_nil)) (pv 1)))))), ?_⟩
    refine ⟨_, rfl, p, _, _, _, rfl, rfl, SqL.of h1, atI_nat (j := 2) rfl, ?_⟩
    refine ⟨fun σ H' => ∃ (v3 : Option V) (i' : Nat) (r : Int), σ = [some (.ref p), some (.int many), some (.int r), v3] ∧ H' = upd H p (.lst [.ref q, .int (i' : Int), .int rest, .int seed]) ∧ 0 ≤ r, ?_, ?_⟩
    · refine ⟨_, rfl, rfl, _, rfl, ?_⟩
      refine ite2 (fun hc => ?_) (fun hc => ?_)
      · refine ⟨fun σ H' => ∃ (i' : Nat) (c : Int), σ = [some (.ref p), some (.int many), some (.int rest), some (.int c)] ∧ H' = upd H p (.lst [.ref q, .int (i' : Int), .int rest, .int seed]) ∧ 0 ≤ c, ?_, ?_⟩
        · refine ⟨_, rfl, p, _, _, _, rfl, rfl, SqL.of h1, atI_nat (j := 1) rfl, _, rfl, p, _, _, _, rfl, rfl, SqL.of h1, atI_nat (j := 0) rfl, q, _, rfl, .inl h2, _, _, rfl, rfl, _, rfl, ?_⟩
          refine ite2 (fun hl => ?_) (fun hl => ?_)
          · have hi : i < ns.length := by
              have := of_decide_eq_true hl
              rw [List.length_map] at this
              omega
            refine ⟨_, rfl, p, _, _, _, rfl, rfl, SqL.of h1, atI_nat (j := 0) rfl, _, rfl, p, _, _, _, rfl, rfl, SqL.of h1, atI_nat (j := 1) rfl, q, _, _, V.int ns[i], rfl, rfl, h2, atI_nat (get_map (List.getElem?_eq_getElem hi)), .inl ⟨_, rfl, _, rfl, ?_⟩⟩
            refine ⟨_, rfl, p, _, _, _, rfl, rfl, SqL.of h1, atI_nat (j := 1) rfl, _, _, rfl, rfl, _, rfl, p, _, _, 1, rfl, rfl, h1, rfl, ?_⟩
            exact ⟨i + 1, _, rfl, rfl, by split <;> omega⟩
          · refine ⟨i, 0, ?_, ?_, by decide⟩
            · rfl
            · funext b
              by_cases e : b = p
              · rw [e, upd_same, h1]
              · rw [upd_ne e]
        · rintro σ H' ⟨i', c, rfl, rfl, hc0⟩
          refine ⟨_, rfl, ?_⟩
          refine ⟨_, rfl, _, _, rfl, rfl, ⟨by decide, by decide, by decide⟩, _, _, rfl, rfl, _, rfl, ?_⟩
          refine ite2 (fun hl => ?_) (fun hl => ?_)
          · have hc1 : c < 10 ^ 18 := by
              have := of_decide_eq_true hl
              have e : (10 : Int) ^ (18 : Int).toNat = 10 ^ 18 := rfl
              omega
            refine ⟨_, rfl, p, _, _, _, rfl, rfl, SqL.of upd_same, atI_nat (j := 3) rfl, _, _, rfl, rfl, .inl ⟨by omega, by omega⟩, _, rfl, _, _, rfl, rfl, .inr ⟨by decide, by decide⟩, _, _, rfl, rfl, _, _, rfl, rfl, .inl ⟨_, rfl, ?_⟩⟩
            refine ⟨_, _, rfl, rfl, (by show (0 : Int) < 2147483647; decide), _, rfl, p, _, _, 3, rfl, rfl, upd_same, rfl, ?_⟩
            rw [upd_upd]
            refine ⟨_, rfl, p, _, _, _, rfl, rfl, SqL.of upd_same, atI_nat (j := 3) rfl, _, _, rfl, rfl, ⟨by decide, by decide⟩, _, _, rfl, rfl, .inr ⟨by decide, by decide⟩, .inl ⟨_, rfl, ?_⟩⟩
            refine ⟨_, _, rfl, rfl, (by show (0 : Int) < 2147483647; decide), _, rfl, _, _, rfl, rfl, hm0, ?_⟩
            refine k _ _ (Int.emod_nonneg _ (by omega)) (Int.emod_lt_of_pos _ hm0) (Off.upd (List.mem_singleton.mpr rfl)) ⟨ns, i', rest, _, upd_same, sqL_off (Off.upd (List.mem_singleton.mpr rfl)) h2 (by simp [hne]), hne, hre, Int.emod_nonneg _ (by decide), Int.emod_lt_of_pos _ (by decide)⟩
          · exact ⟨_, i', c, rfl, rfl, hc0⟩
      · refine ⟨none, i, rest, ?_, ?_, hre⟩
        · rfl
        · funext b
          by_cases e : b = p
          · rw [e, upd_same, h1]
          · rw [upd_ne e]
    · rintro σ H' ⟨v3, i', r, rfl, rfl, hr0⟩
      refine ⟨_, rfl, _, rfl, _, _, rfl, rfl, ⟨hm0, hm1⟩, _, rfl, p, _, _, 2, rfl, rfl, upd_same, rfl, ?_⟩
      rw [upd_upd]
      refine ⟨_, rfl, .inl ⟨_, rfl, _, rfl, _, _, rfl, rfl, hm0, ?_⟩⟩
      refine k _ _ (Int.emod_nonneg _ (by omega)) (Int.emod_lt_of_pos _ hm0) (Off.upd (List.mem_singleton.mpr rfl)) ⟨ns, i', _, seed, upd_same, sqL_off (Off.upd (List.mem_singleton.mpr rfl)) h2 (by simp [hne]), hne, Int.ediv_nonneg hr0 (by omega), hs0, hs1⟩
end
end Sg.Fe

set_option Elab.async false
set_option linter.all false
set_option maxRecDepth 100000
set_option maxHeartbeats 4000000
namespace Sg.Fe
open PySem PySem.Spec PyProof.Rows L2
theorem yesIte {σ : L2.St} {H : Hp} {A B : Hp → Prop} (h : A H) : tYes σ H (fun b H3 => if b = true then A H3 else B H3) := by
  show (if true = true then A H else B H)
  rw [if_pos rfl]; exact h
theorem paired_snoc {α β : Type} {F : α → β → Prop} : ∀ {a : List α} {b : List β} {x : α} {y : β}, Paired F a b → F x y → Paired F (a ++ [x]) (b ++ [y])
  | _, _, _, _, .nil, h => .cons h .nil
  | _, _, _, _, .cons r t, h => .cons r (paired_snoc t h)
theorem paired_ofmap {α β γ : Type} {F : α → γ → Prop} {g : β → γ} : ∀ {m : List β} {l : List α}, Paired F l (m.map g) → Paired (fun a b => F a (g b)) l m
  | [], _, h => by cases h; exact .nil
  | b :: m, _, h => by
    cases h with
    | cons r t => exact .cons r (paired_ofmap t)
/-- [(.., ..) for x in xs]: new tuples, cs what they hold -/
theorem lc_tups {K : PySem.W.Frag} {σ : L2.St} {H1 : Hp} {D a : Addr} {vs : List Nat} {j : Nat} {xs : List V} {te : TE} {Qd : Hp → Prop} (cs : List (List V)) (hlen : cs.length = xs.length) (hD : H1 D = Option.none) (hx : SqL K H1 a xs) (hw : ∀ x, wipe ((wipe σ vs).set j (some x)) vs = wipe σ vs) (hz : xs.length ≤ sizeLine)
    (he : ∀ (i : Nat) (x : V) (c : List V) (H' : Hp) (Q' : VK), xs[i]? = some x → cs[i]? = some c → Same H1 H' → (∀ q H'', Same H' H'' → H'' q = some (.tup c) → Q' (.ref q) H'') → te ((wipe σ vs).set j (some x)) H' Q')
    (hd : ∀ H' (qs : List Addr), Same H1 H' → H' D = some (.lst (qs.map V.ref)) → Paired (fun (q : Addr) (c : List V) => H' q = some (.tup c)) qs cs → Qd H') :
    ∃ W : Nat → Nat → Hp → Prop, (∃ m, W 0 m (upd H1 D (.lst []))) ∧ ∀ i m H, W i m H →
      ((Itl K a).stop i H ∧ Qd H) ∨ ((Itl K a).go i H ∧ ∃ Nx : Hp → Prop, (∀ H', Nx H' → ∃ m', m' < m ∧ W (i + 1) m' H') ∧ ∀ x H', (Itl K a).yld i H x H' → gName j x (wipe σ vs) H' fun σ2 H2 => wipe σ2 vs = wipe σ vs ∧ tYes σ2 H2 fun b H3 =>
        if b = true then te σ2 H3 fun y H4 => ∃ acc, H4 D = some (.lst acc) ∧ acc.length < sizeLine ∧ Nx (upd H4 D (.lst (acc ++ [y]))) else Nx H3) := by
  refine lc_list (K := K) (a := a) (xs := xs) (fun i H' => i ≤ xs.length ∧ Same H1 H' ∧ ∃ qs : List Addr, H' D = some (.lst (qs.map V.ref)) ∧ qs.length = i ∧ Paired (fun (q : Addr) (c : List V) => H' q = some (.tup c)) qs (cs.take i)) ⟨Nat.zero_le _, same_new hD, [], upd_same, rfl, by rw [List.take_zero]; exact .nil⟩ (fun i H' _ ⟨_, sm, _⟩ => sm.seq hx) ?_ ?_
  · rintro i x H' hi ⟨_, sm, qs, hDl, hl, pr⟩
    have hil := (List.getElem?_eq_some_iff.mp hi).1
    have hc : cs[i]? = some (cs[i]'(by omega)) := List.getElem?_eq_getElem _
    refine ⟨hw _, yesIte (he i x _ H' _ hi hc sm fun q H'' s2 hq => ⟨_, s2 _ _ hDl, ?_, by omega, ?_, qs ++ [q], ?_, ?_, ?_⟩)⟩
    · rw [List.length_map, hl]; omega
    · intro y o hy'
      rw [upd_ne (ne_of_none hy' hD)]
      exact s2 _ _ (sm _ _ hy')
    · rw [upd_same, List.map_append]; rfl
    · rw [List.length_append, hl]; rfl
    · have keep : ∀ (u : Addr) (c : List V), H'' u = some (.tup c) → upd H'' D (.lst (qs.map V.ref ++ [.ref q])) u = some (.tup c) := fun u c e => by
        rw [upd_ne (ne_of e (s2 _ _ hDl) (by intro z; cases z))]; exact e
      rw [List.take_add_one, hc]
      exact paired_snoc (Paired.imp2 (fun u c e => keep u c (s2 _ _ e)) pr) (keep q _ hq)
  · rintro H' ⟨_, sm, qs, hDl, hl, pr⟩
    exact hd H' qs sm hDl (by rw [← hlen, List.take_length] at pr; exact pr)
/-! ### keys in order -/
structure SortOf (ks rs : List (Int × Int)) : Prop where
  perm : (rs.map (·.1)).Perm (ks.map (·.1))
  ord : (rs.map (·.1)).Pairwise (· ≤ ·)
  val : ∀ x ∈ rs, look ks x.1 = some x.2
theorem look_none {ks : List (Int × Int)} {h : Int} : look ks h = none ↔ h ∉ ks.map (·.1) := by
  induction ks with
  | nil => simp [look_nil]
  | cons x ks ih =>
    obtain ⟨k, v⟩ := x
    by_cases e : k = h
    · subst e; simp [look_pos]
    · rw [look_neg e, ih]; simp; omega
theorem look_mem {ks : List (Int × Int)} (nd : KNd ks) {x : Int × Int} (hx : x ∈ ks) : look ks x.1 = some x.2 := by
  induction ks with
  | nil => cases hx
  | cons y ks ih =>
    obtain ⟨k, v⟩ := y
    have nd' : k ∉ ks.map (·.1) ∧ KNd ks := List.nodup_cons.mp nd
    rcases List.mem_cons.mp hx with rfl | h
    · exact look_pos
    · rw [look_neg (fun e => nd'.1 (by rw [e]; exact List.mem_map.mpr ⟨x, h, rfl⟩)), ih nd'.2 h]
theorem mem_look {ks : List (Int × Int)} {h v : Int} (e : look ks h = some v) : (h, v) ∈ ks := by
  induction ks with
  | nil => cases e
  | cons y ks ih =>
    obtain ⟨k, w⟩ := y
    by_cases z : k = h
    · subst z; rw [look_pos] at e; cases e; exact List.mem_cons_self
    · rw [look_neg z] at e; exact List.mem_cons_of_mem _ (ih e)
section
variable {ks rs ls : List (Int × Int)}
theorem SortOf.nd (s : SortOf ks rs) (nd : KNd ks) : KNd rs := s.perm.nodup_iff.mpr nd
theorem SortOf.look (s : SortOf ks rs) (nd : KNd ks) (h : Int) : Sg.Fe.look rs h = Sg.Fe.look ks h := by
  cases e : Sg.Fe.look rs h with
  | none =>
    rw [look_none] at e
    exact (look_none.mpr fun m => e (s.perm.mem_iff.mpr m)).symm
  | some v => exact (s.val _ (mem_look e)).symm
theorem SortOf.emp (s : SortOf ks rs) : rs.isEmpty = ks.isEmpty := by
  have := s.perm.length_eq
  rw [List.length_map, List.length_map] at this
  cases rs <;> cases ks <;> simp_all
theorem SortOf.one (s : SortOf ks rs) (t : SortOf ks ls) : rs = ls := by
  have e : rs.map (·.1) = ls.map (·.1) := PySem.W.ksm_same (s.perm.trans t.perm.symm) s.ord t.ord
  have hl : rs.length = ls.length := by have := congrArg List.length e; simpa using this
  refine List.ext_getElem hl fun i h1 h2 => ?_
  have e1 : (rs[i]).1 = (ls[i]).1 := by
    have := congrArg (fun l => l[i]?) e
    simp only [List.getElem?_map, List.getElem?_eq_getElem h1, List.getElem?_eq_getElem h2] at this
    exact Option.some.inj this
  have e2 := s.val _ (List.getElem_mem h1)
  have e3 := t.val _ (List.getElem_mem h2)
  rw [e1, e3] at e2
  exact Prod.ext e1 (Option.some.inj e2).symm
end
theorem fromFe {K : PySem.W.Frag} {H : Hp} {v : V} {hd : Option (Int × Str)} (h : HoldV K H v hd) : Sg.HoldV K H v hd := by
  cases hd with
  | none => exact h
  | some x => exact h
def spLFence (K : PySem.W.Frag) : Sp := fun vs H Q _ => ∃ (d : Addr) (hv : V) (ks : List (Int × Int)) (hd : Option (Int × Str)), vs = [.ref d, hv] ∧ H d = some (.dK (kvsOf ks)) ∧ KNd ks ∧ ks.length ≤ 1000 ∧ HoldV K H hv hd ∧
  ∀ a rs H', Same H H' → SortOf ks rs → Sg.FenceAt K H' (.ref a) rs hd → Q (.ref a) H'
section
variable {P : Program} {wrl : World} {K : PySem.W.Frag} {mg : Str → Option Value} {base : Heap} {f fN : Addr} {fd fdN : FuncData}
theorem scLFence : FnScope ["keys", "holder", "host"] ["keys", "holder"] (defScope sLFence) := ⟨rfl, rfl, rfl, by decide +kernel, rfl, by decide +kernel, by decide +kernel⟩
theorem ok_lfence (F : Fun K "_law_fence" "_law_fence" sLFence f fd) (B : LB mg) : FnOk P wrl K mg base CX0 1 f fd ["keys", "holder"] (spLFence K) := by
  refine F.ok scLFence (fun vs H Q E h => ?_) (fun cdv A outer s H vs Q E hr h => ?_)
  · obtain ⟨d, hv, ks, hd, rfl, _⟩ := h
    rfl
  · obtain ⟨d, hv, ks, hd, rfl, h1, nd, hl, h4, k⟩ := h
    refine ⟨_, pss_one (ps_ret (pe_tup (pa_cons (pe_callTy call_tupP (by rfl) B.tuple (by decide +kernel) (pa_cons
      (pe_lc (own := [("host", 2)]) (g := gName 2) (tt := tYes) (te := tTup (tCons (tVar 2) (tCons (tDGet (tVar 0) (tVar 2)) tNil))) (by rfl) scLFence.nd (pi_list (pe_callB cr_sortedI (by rfl) B.sorted (by decide +kernel) (pa_cons (pe_callTy (call_list_dK rfl) (by rfl) B.list (by decide +kernel) (pa_cons (pv 0) pa_nil)) pa_nil)))
        (blkOk_by (own := [("host", 2)]) (N := ["keys", "holder", "host"]) (sc := defScope sLFence) (by decide +kernel)) (fun _ _ _ _ _ => pg_name (i := 2) scLFence.nd rfl (Or.inl rfl)) (fun _ _ _ _ _ => pts_nil)
        (fun _ _ _ _ _ => by exact (pe_tup (pa_cons (pv 2) (pa_cons (pe_dget (hu_of hr) (pv 0) (pv 2) (fun _ _ => rfl)) pa_nil))))) pa_nil)) (pa_cons (pv 1) pa_nil)))), ?_⟩
    refine ⟨_, rfl, d, _, rfl, h1, fun l1 hl1 => ?_⟩
    have e1 : (kvsOf ks).map (fun kv => kV kv.1) = (ks.map (·.1)).map V.int := by simp [kvsOf, kV]
    rw [e1]
    have s1 := same_new (o := .lst ((ks.map (·.1)).map V.int)) hl1
    refine ⟨l1, _, rfl, SqL.of upd_same, fun ns l2 hp ho hl2 => ?_⟩
    have s2 := s1.trans (same_new (o := .lst (ns.map V.int)) hl2)
    refine ⟨l2, rfl, ⟨_, SqL.of upd_same⟩, fun D hD => ?_⟩
    have nsl : ns.length = ks.length := by rw [hp.length_eq, List.length_map]
    have hin : ∀ n ∈ ns, ∃ v, look ks n = some v := fun n hn => by
      cases e : look ks n with
      | some v => exact ⟨v, rfl⟩
      | none => exact absurd (hp.mem_iff.mp hn) (look_none.mp e)
    refine lc_tups (ns.map fun n => [V.int n, V.int ((look ks n).getD 0)]) (by rw [List.length_map, List.length_map]) hD (SqL.of upd_same) (fun _ => rfl) (by rw [List.length_map, nsl]; exact Nat.le_of_lt (small1000 hl)) (fun i x c H' Q' hx hc sm q' => ?_) fun H' qs sm hDl pr => ?_
    · obtain ⟨n, hn, rfl⟩ := map_get hx
      rw [List.getElem?_map, hn] at hc
      cases hc
      obtain ⟨v, hv'⟩ := hin n (List.mem_of_getElem? hn)
      have hd1 := sm _ _ (s2 _ _ h1)
      have g := DGet.k (k := Sum.inl n) hd1
      rw [val_look, hv'] at g
      refine ⟨_, rfl, _, rfl, _, rfl, d, _, rfl, g, by show 2 ≤ sizeLine; decide, fun t ht => ?_⟩
      refine q' t _ (same_new ht) ?_
      show upd H' t _ t = some (.tup [V.int n, V.int ((look ks n).getD 0)])
      rw [hv']
      exact upd_same
    · refine ⟨D, _, rfl, SqL.of hDl, fun r o hr2 od => ?_⟩
      have s3 := s2.trans (sm.trans (same_new (o := .frz o (.tup (qs.map V.ref))) hr2))
      refine ⟨_, rfl, by show 2 ≤ sizeLine; decide, fun a ha => ?_⟩
      have s4 := same_new (o := .tup [V.ref r, hv]) ha
      refine k a (ns.map fun n => (n, (look ks n).getD 0)) _ (s3.trans s4) ⟨?_, ?_, ?_⟩ ⟨a, r, hv, rfl, SqT.of upd_same, ⟨qs, .inl ⟨o, s4 _ _ upd_same, od⟩, ?_⟩, fromFe (h4.tk (TK.of (s3.trans s4)))⟩
      · rw [List.map_map]
        show (ns.map fun n => n).Perm _
        rw [List.map_id']
        exact hp
      · rw [List.map_map]
        show (ns.map fun n => n).Pairwise _
        rw [List.map_id']
        exact ho
      · intro x hx
        obtain ⟨n, hn, rfl⟩ := List.mem_map.mp hx
        obtain ⟨v, hv'⟩ := hin n hn
        rw [hv']; rfl
      · exact Paired.mapR (g := fun (n : Int) => (n, (look ks n).getD 0)) (fun (q : Addr) (n : Int) e => ((same_new (o := .frz o (.tup (qs.map V.ref))) hr2).trans s4) _ _ e) (paired_ofmap (F := fun (q : Addr) (c : List V) => H' q = some (.tup c)) (g := fun (n : Int) => [V.int n, V.int ((look ks n).getD 0)]) pr)
end
end Sg.Fe

set_option Elab.async false
set_option linter.all false
set_option maxRecDepth 100000
set_option maxHeartbeats 4000000
namespace Sg.Fe
open PySem PySem.Spec PyProof.Rows L2
def spCommand (K : PySem.W.Frag) : Sp := fun vs H Q _ => ∃ (p q : Addr), vs = [.ref p] ∧ TapeAt K H p q ∧ ∀ c cm H', Off [p] H H' → TapeAt K H' p q → CmdAt K H' c cm → okC cm → Q (.ref c) H'
/-- [x, y, ..][_law_next(tape, n)] -/
theorem lit_ix {K : PySem.W.Frag} {H : Hp} {p q l : Addr} {xs : List V} {n : Int} {R : VK} (hl : H l = none) (tp : TapeAt K H p q) (hn : (xs.length : Int) = n) (n0 : 0 < n) (n1 : n < 1073741824) (k : ∀ x H', x ∈ xs → Off [p] H H' → TapeAt K H' p q → R x H') :
    spNext K [.ref p, .int n] (upd H l (.lst xs)) (fun v H1 => ∃ a ys i x, V.ref l = .ref a ∧ v = .int i ∧ SqL K H1 a ys ∧ atI ys i = some x ∧ R x H1) E0 := by
  have s1 := same_new (o := .lst xs) hl
  have lp : l ≠ p := fun e => by
    obtain ⟨x, hx⟩ := tp.lst
    rw [e, hx] at hl; cases hl
  refine ⟨p, q, n, rfl, tp.same s1, n0, n1, fun r H1 r0 r1 o1 t1 => ?_⟩
  have h1 : H1 l = some (.lst xs) := o1 _ _ upd_same (by simpa using lp)
  have hr : r.toNat < xs.length := by omega
  have e : atI xs ((r.toNat : Nat) : Int) = some xs[r.toNat] := atI_nat (List.getElem?_eq_getElem hr)
  rw [show ((r.toNat : Nat) : Int) = r by omega] at e
  exact ⟨l, xs, r, _, rfl, rfl, SqL.of h1, e, k _ _ (List.getElem_mem hr) (fun b o z m => o1 _ _ (s1 _ _ z) m) t1⟩
abbrev namesC : List Str := ["make", "write", "write", "write", "trim", "read", "snap", "view", "drop", "remove", "register", "register", "leave", "reserve", "reserve", "release", "preempt", "flush"]
section
variable {P : Program} {wrl : World} {K : PySem.W.Frag} {mg : Str → Option Value} {base : Heap} {f fN : Addr} {fd fdN : FuncData}
theorem scCommand : FnScope ["tape", "names", "name", "space"] ["tape"] (defScope sCommand) := ⟨rfl, rfl, rfl, by decide +kernel, rfl, by decide +kernel, by decide +kernel⟩
theorem ok_command (F : Fun K "_law_command" "_law_command" sCommand f fd) (B : LB mg) (GN : Def P wrl K mg base CX0 "_law_next" 1 ["tape", "many"] (spNext K) fN fdN) : FnOk P wrl K mg base CX0 2 f fd ["tape"] (spCommand K) := by
  refine F.ok scCommand (fun vs H Q E h => ?_) (fun cdv A outer s H vs Q E hr h => ?_)
  · obtain ⟨p, q, rfl, _⟩ := h
    rfl
  · obtain ⟨p, q, rfl, tp, k⟩ := h
    have hr1 : Room 1 _ := hr
    refine ⟨_, (pss_cons (ps_set (i := 1) scCommand.nd rfl (Or.inl rfl) (pe_lst (pa_cons pe_str (pa_cons pe_str (pa_cons pe_str (pa_cons pe_str (pa_cons pe_str (pa_cons pe_str (pa_cons pe_str (pa_cons pe_str (pa_cons pe_str (pa_cons pe_str (pa_cons pe_str (pa_cons pe_str pa_nil))))))))))))))
      (pss_cons (ps_set (i := 1) scCommand.nd rfl (Or.inl rfl) (pe_op op_cat (pv 1) (pe_lst (pa_cons pe_str (pa_cons pe_str (pa_cons pe_str (pa_cons pe_str (pa_cons pe_str (pa_cons pe_str pa_nil)))))))))
      (pss_cons (ps_set (i := 2) scCommand.nd rfl (Or.inl rfl) (pe_ix ix_list (pv 1) (pe_call GN.ok hr1 (by rfl) GN.mg GN.kp GN.bd .nil pass0 (pa_cons (pv 0) (pa_cons pe_int pa_nil))) (fun _ _ => rfl)))
      (pss_cons (ps_set (i := 3) scCommand.nd rfl (Or.inl rfl) (pe_ix ix_list (pe_lst (pa_cons pe_int (pa_cons pe_int (pa_cons pe_int (pa_cons pe_int (pa_cons pe_int (pa_cons pe_int pa_nil))))))) (pe_call GN.ok hr1 (by rfl) GN.mg GN.kp GN.bd .nil pass0 (pa_cons (pv 0) (pa_cons pe_int pa_nil))) (fun _ _ => rfl)))
      (pss_cons (ps_if (pt_cmpR op_eq (pv 2) pe_str (nomark _))
      (pss_one (ps_ret (pe_tup (pa_cons (pv 2) (pa_cons (pv 3) (pa_cons (pe_ix ix_list (pe_lst (pa_cons pe_int (pa_cons pe_int (pa_cons pe_int (pa_cons pe_int pa_nil))))) (pe_call GN.ok hr1 (by rfl) GN.mg GN.kp GN.bd .nil pass0 (pa_cons (pv 0) (pa_cons pe_int pa_nil))) (fun _ _ => rfl)) pa_nil)))))) pss_nil)
      (pss_cons (ps_if (pt_cmpR op_eq (pv 2) pe_str (nomark _))
      (pss_one (ps_ret (pe_tup (pa_cons (pv 2) (pa_cons (pv 3) (pa_cons (pe_ix ix_list (pe_lst (pa_cons (pe_call GN.ok hr1 (by rfl) GN.mg GN.kp GN.bd .nil pass0 (pa_cons (pv 0) (pa_cons pe_int pa_nil))) (pa_cons pe_int pa_nil))) (pe_callTy call_int1 (by rfl) B.int (by decide +kernel) (pa_cons (pe_cmpR op_eq (pe_call GN.ok hr1 (by rfl) GN.mg GN.kp GN.bd .nil pass0 (pa_cons (pv 0) (pa_cons pe_int pa_nil))) pe_int (nomark _)) pa_nil)) (fun _ _ => rfl)) (pa_cons (pe_op op_sub (pe_call GN.ok hr1 (by rfl) GN.mg GN.kp GN.bd .nil pass0 (pa_cons (pv 0) (pa_cons pe_int pa_nil))) pe_int) pa_nil))))))) pss_nil)
      (pss_cons (ps_if (PW.pt (pw_or (pt_cmpR op_eq (pv 2) pe_str (nomark _)) (pw_or1 (pt_cmpR op_eq (pv 2) pe_str (nomark _)))))
      (pss_one (ps_ret (pe_tup (pa_cons (pv 2) (pa_cons (pv 3) (pa_cons (pe_call GN.ok hr1 (by rfl) GN.mg GN.kp GN.bd .nil pass0 (pa_cons (pv 0) (pa_cons pe_int pa_nil))) pa_nil)))))) pss_nil)
      (pss_cons (ps_if (pt_cmpR op_eq (pv 2) pe_str (nomark _))
      (pss_one (ps_ret (pe_tup (pa_cons (pv 2) (pa_cons (pv 3) (pa_cons (pe_op op_add pe_int (pe_call GN.ok hr1 (by rfl) GN.mg GN.kp GN.bd .nil pass0 (pa_cons (pv 0) (pa_cons pe_int pa_nil)))) (pa_cons (pe_call GN.ok hr1 (by rfl) GN.mg GN.kp GN.bd .nil pass0 (pa_cons (pv 0) (pa_cons pe_int pa_nil))) pa_nil))))))) pss_nil)
      (pss_cons (ps_if (pt_cmpR op_eq (pv 2) pe_str (nomark _))
      (pss_one (ps_ret (pe_tup (pa_cons (pv 2) (pa_cons (pv 3) (pa_cons (pe_op op_add pe_int (pe_call GN.ok hr1 (by rfl) GN.mg GN.kp GN.bd .nil pass0 (pa_cons (pv 0) (pa_cons pe_int pa_nil)))) pa_nil)))))) pss_nil)
      (pss_cons (ps_if (pt_cmpR op_eq (pv 2) pe_str (nomark _))
      (pss_one (ps_ret (pe_tup (pa_cons (pv 2) (pa_cons (pv 3) (pa_cons (pe_ix ix_list (pe_lst (pa_cons pe_str (pa_cons pe_str pa_nil))) (pe_call GN.ok hr1 (by rfl) GN.mg GN.kp GN.bd .nil pass0 (pa_cons (pv 0) (pa_cons pe_int pa_nil))) (fun _ _ => rfl)) pa_nil)))))) pss_nil)
      (pss_cons (ps_if (pt_cmpR op_eq (pv 2) pe_str (nomark _))
      (pss_one (ps_ret (pe_tup (pa_cons (pv 2) (pa_cons (pv 3) (pa_cons (pe_call GN.ok hr1 (by rfl) GN.mg GN.kp GN.bd .nil pass0 (pa_cons (pv 0) (pa_cons pe_int pa_nil))) pa_nil)))))) pss_nil)
      (pss_cons (ps_if (pt_cmpR op_eq (pv 2) pe_str (nomark _))
      (pss_one (ps_ret (pe_tup (pa_cons (pv 2) pa_nil)))) pss_nil)
      (pss_one (ps_ret (pe_tup (pa_cons (pv 2) (pa_cons (pv 3) pa_nil))))))))))))))))), ?_⟩
    refine ⟨by show 12 ≤ sizeLine; decide, fun l0 h0 => ⟨_, rfl, by show 6 ≤ sizeLine; decide, fun l1 h1 => ?_⟩⟩
    have s0 := same_new (o := .lst ([V.str "make", V.str "write", V.str "write", V.str "write", V.str "trim", V.str "read", V.str "snap", V.str "view", V.str "drop", V.str "remove", V.str "register", V.str "register"])) h0
    have s1 := same_new (o := .lst ([V.str "leave", V.str "reserve", V.str "reserve", V.str "release", V.str "preempt", V.str "flush"])) h1
    refine ⟨l0, l1, _, _, rfl, rfl, s1 _ _ upd_same, upd_same, by show 18 ≤ sizeLine; decide, fun l hl => ?_⟩
    have tpp := tp.same (s0.trans s1)
    generalize upd (upd H l0 _) l1 _ = H0 at hl s1 tpp
    have s01 := s0.trans s1
    refine ⟨_, rfl, _, rfl, lit_ix (n := 18) hl tpp rfl (by decide) (by decide) fun x H2 hx o2 t2 => ?_⟩
    have o02 : Off [p] H H2 := fun b o e n => o2 _ _ (s01 _ _ e) n
    obtain ⟨word, hw, rfl⟩ : ∃ word, word ∈ namesC ∧ x = V.str word := by
      have hx' : x ∈ namesC.map V.str := hx
      obtain ⟨w, h1, h2⟩ := List.mem_map.mp hx'
      exact ⟨w, h1, h2.symm⟩
    refine ⟨by show 6 ≤ sizeLine; decide, fun l3 hl3 => ⟨_, rfl, lit_ix (n := 6) hl3 t2 rfl (by decide) (by decide) fun y H3 hy o3 t3 => ?_⟩⟩
    obtain ⟨sp, rfl⟩ : ∃ sp, y = V.int sp := by
      have hy' : y ∈ ([3, 3, 3, 3, 5, 8] : List Int).map V.int := hy
      obtain ⟨w, _, h2⟩ := List.mem_map.mp hy'
      exact ⟨w, h2.symm⟩
    have o03 := o02.trans o3
    clear hx hy
    have one : ∀ (H4 : Hp) (cm : Cm) (xs : List V), V.str (cmS cm) :: cmI cm = xs → okC cm → TapeAt K H4 p q → Off [p] H H4 → ∀ t, H4 t = none → Q (.ref t) (upd H4 t (.tup xs)) := fun H4 cm xs ex c4 t4 o4 t ht => by
      subst ex
      exact k t cm _ (fun b o e n => same_new ht _ _ (o4 _ _ e n)) (t4.same (same_new ht)) (SqT.of upd_same) c4
    refine ⟨_, rfl, rfl, _, rfl, ?_⟩
    by_cases e1 : word = "make"
    · subst e1
      refine chooseT str_eqT ⟨_, rfl, _, rfl, by show 4 ≤ sizeLine; decide, fun l4 hl4 => ⟨_, rfl, lit_ix (n := 4) hl4 t3 rfl (by decide) (by decide) fun z H4 hz o4 t4 => ?_⟩⟩
      obtain ⟨z, rfl⟩ : ∃ sp, z = V.int sp := by
        have hy' : z ∈ ([1, 4, 6, 64] : List Int).map V.int := hz
        obtain ⟨w, _, h2⟩ := List.mem_map.mp hy'
        exact ⟨w, h2.symm⟩
      exact ⟨by show 3 ≤ sizeLine; decide, fun t ht => one H4 (.make sp z) _ rfl trivial t4 (o03.trans o4) t ht⟩
    refine chooseF (str_eqF e1) ⟨_, rfl, rfl, _, rfl, ?_⟩
    by_cases e2 : word = "write"
    · subst e2
      refine chooseT str_eqT ⟨_, rfl, _, rfl, _, rfl, p, q, 5, rfl, t3, by decide, by decide, fun a H4 _ _ o4 t4 => ⟨by show 2 ≤ sizeLine; decide, fun l4 hl4 => ?_⟩⟩
      have s4 := same_new (o := .lst [V.int a, V.int 63]) hl4
      have lp4 : l4 ≠ p := fun e => by
        obtain ⟨x, hx⟩ := t4.lst
        rw [e, hx] at hl4; cases hl4
      refine ⟨_, rfl, p, q, 9, rfl, t4.same s4, by decide, by decide, fun b H5 _ _ o5 t5 => ⟨rfl, .inr ⟨_, rfl, ?_⟩⟩⟩
      have h4 : H5 l4 = some (.lst [V.int a, V.int 63]) := o5 _ _ upd_same (by simpa using lp4)
      have o05 : Off [p] H H5 := fun b o e n => o5 _ _ (s4 _ _ (o4 _ _ (o03 _ _ e n) n)) n
      obtain ⟨x, hi⟩ : ∃ x : Int, atI [V.int a, V.int 63] (if decide (V.int b = V.int 0) = true then 1 else 0) = some (V.int x) := by
        cases decide (V.int b = V.int 0) with
        | true => exact ⟨63, rfl⟩
        | false => exact ⟨a, rfl⟩
      exact ⟨l4, _, _, V.int x, rfl, rfl, SqL.of h4, hi, _, rfl, p, q, 9, rfl, t5, by decide, by decide, fun c H6 _ _ o6 t6 => ⟨_, _, rfl, rfl, by show 4 ≤ sizeLine; decide, fun t ht => one H6 (.write sp x (c - 4)) _ rfl trivial t6 (o05.trans o6) t ht⟩⟩
    refine chooseF (str_eqF e2) ⟨_, rfl, rfl, _, rfl, ?_⟩
    by_cases e3 : word = "trim"
    · subst e3
      refine chooseT str_eqT (chooseT rfl ⟨_, rfl, _, rfl, _, rfl, p, q, 6, rfl, t3, by decide, by decide, fun a H4 _ _ o4 t4 => ⟨by show 3 ≤ sizeLine; decide, fun t ht => one H4 (.trim sp a) _ rfl trivial t4 (o03.trans o4) t ht⟩⟩)
    refine chooseF (str_eqF e3) ⟨_, rfl, rfl, _, rfl, ?_⟩
    by_cases e4 : word = "read"
    · subst e4
      refine chooseT str_eqT ⟨_, rfl, _, rfl, _, rfl, p, q, 6, rfl, t3, by decide, by decide, fun a H4 _ _ o4 t4 => ⟨by show 3 ≤ sizeLine; decide, fun t ht => one H4 (.read sp a) _ rfl trivial t4 (o03.trans o4) t ht⟩⟩
    refine chooseF (str_eqF e4) ⟨_, rfl, rfl, _, rfl, ?_⟩
    by_cases e5 : word = "view"
    · subst e5
      refine chooseT str_eqT ⟨_, rfl, _, rfl, _, rfl, p, q, 12, rfl, t3, by decide, by decide, fun a H4 _ _ o4 t4 => ⟨_, _, rfl, rfl, _, rfl, p, q, 6, rfl, t4, by decide, by decide, fun b H5 _ _ o5 t5 => ⟨by show 4 ≤ sizeLine; decide, fun t ht => one H5 (.view sp (1 + a) b) _ rfl trivial t5 ((o03.trans o4).trans o5) t ht⟩⟩⟩
    refine chooseF (str_eqF e5) ⟨_, rfl, rfl, _, rfl, ?_⟩
    by_cases e6 : word = "drop"
    · subst e6
      refine chooseT str_eqT ⟨_, rfl, _, rfl, _, rfl, p, q, 12, rfl, t3, by decide, by decide, fun a H4 _ _ o4 t4 => ⟨_, _, rfl, rfl, by show 3 ≤ sizeLine; decide, fun t ht => one H4 (.drop sp (1 + a)) _ rfl trivial t4 (o03.trans o4) t ht⟩⟩
    refine chooseF (str_eqF e6) ⟨_, rfl, rfl, _, rfl, ?_⟩
    by_cases e7 : word = "reserve"
    · subst e7
      refine chooseT str_eqT ⟨_, rfl, _, rfl, by show 2 ≤ sizeLine; decide, fun l4 hl4 => ⟨_, rfl, lit_ix (n := 2) hl4 t3 rfl (by decide) (by decide) fun z H4 hz o4 t4 => ?_⟩⟩
      obtain ⟨z, rfl, zok⟩ : ∃ w, z = V.str w ∧ PyData.strOk w = true := by
        have hy' : z ∈ (["write", "alone"] : List Str).map V.str := hz
        obtain ⟨w, h1, h2⟩ := List.mem_map.mp hy'
        refine ⟨w, h2.symm, ?_⟩
        rcases List.mem_cons.mp h1 with rfl | h1
        · decide +kernel
        · rcases List.mem_cons.mp h1 with rfl | h1
          · decide +kernel
          · cases h1
      exact ⟨by show 3 ≤ sizeLine; decide, fun t ht => one H4 (.reserve sp z) _ rfl zok t4 (o03.trans o4) t ht⟩
    refine chooseF (str_eqF e7) ⟨_, rfl, rfl, _, rfl, ?_⟩
    by_cases e8 : word = "preempt"
    · subst e8
      refine chooseT str_eqT ⟨_, rfl, _, rfl, _, rfl, p, q, 4, rfl, t3, by decide, by decide, fun a H4 _ _ o4 t4 => ⟨by show 3 ≤ sizeLine; decide, fun t ht => one H4 (.preempt sp a) _ rfl trivial t4 (o03.trans o4) t ht⟩⟩
    refine chooseF (str_eqF e8) ⟨_, rfl, rfl, _, rfl, ?_⟩
    by_cases e9 : word = "flush"
    · subst e9
      exact chooseT str_eqT ⟨_, rfl, by show 1 ≤ sizeLine; decide, fun t ht => one H3 .flush _ rfl trivial t3 o03 t ht⟩
    refine chooseF (str_eqF e9) ⟨_, rfl, _, rfl, by show 2 ≤ sizeLine; decide, fun t ht => ?_⟩
    have hm : word = "snap" ∨ word = "remove" ∨ word = "register" ∨ word = "leave" ∨ word = "release" := by
      rcases List.mem_cons.mp hw with h | hw
      · exact absurd h e1
      rcases List.mem_cons.mp hw with h | hw
      · exact absurd h e2
      rcases List.mem_cons.mp hw with h | hw
      · exact absurd h e2
      rcases List.mem_cons.mp hw with h | hw
      · exact absurd h e2
      rcases List.mem_cons.mp hw with h | hw
      · exact absurd h e3
      rcases List.mem_cons.mp hw with h | hw
      · exact absurd h e4
      rcases List.mem_cons.mp hw with h | hw
      · exact .inl h
      rcases List.mem_cons.mp hw with h | hw
      · exact absurd h e5
      rcases List.mem_cons.mp hw with h | hw
      · exact absurd h e6
      rcases List.mem_cons.mp hw with h | hw
      · exact .inr (.inl h)
      rcases List.mem_cons.mp hw with h | hw
      · exact .inr (.inr (.inl h))
      rcases List.mem_cons.mp hw with h | hw
      · exact .inr (.inr (.inl h))
      rcases List.mem_cons.mp hw with h | hw
      · exact .inr (.inr (.inr (.inl h)))
      rcases List.mem_cons.mp hw with h | hw
      · exact absurd h e7
      rcases List.mem_cons.mp hw with h | hw
      · exact absurd h e7
      rcases List.mem_cons.mp hw with h | hw
      · exact .inr (.inr (.inr (.inr h)))
      rcases List.mem_cons.mp hw with h | hw
      · exact absurd h e8
      rcases List.mem_cons.mp hw with h | hw
      · exact absurd h e9
      · cases hw
    rcases hm with rfl | rfl | rfl | rfl | rfl
    · exact one H3 (.snap sp) _ rfl trivial t3 o03 t ht
    · exact one H3 (.remove sp) _ rfl trivial t3 o03 t ht
    · exact one H3 (.register sp) _ rfl trivial t3 o03 t ht
    · exact one H3 (.leave sp) _ rfl trivial t3 o03 t ht
    · exact one H3 (.release sp) _ rfl trivial t3 o03 t ht
end
end Sg.Fe

set_option Elab.async false
set_option linter.all false
set_option maxRecDepth 100000
set_option maxHeartbeats 4000000
namespace Sg.Fe
open PySem PySem.Spec PyProof.Rows L2
/-! ### the law's world -/
structure Sw where
  ls : Addr
  ca : Addr
  ka : Addr
  z : Int
  cs : Cells
  ks : List (Int × Int)
  hd : Option (Int × Str)
structure Wo where
  S : Addr
  N : Addr
  sp : List (Int × Sw)
  sn : List ((Int × Int) × Addr × Cells)
  o : Int
def ownS (s : Sw) : List Addr := [s.ls, s.ca, s.ka]
def own (w : Addr) (W : Wo) : List Addr := w :: W.S :: W.N :: ((W.sp.flatMap fun p => ownS p.2) ++ W.sn.map fun p => p.2.1)
section
variable (K : PySem.W.Frag)
def SwIn (H : Hp) (s : Sw) : Prop := ∃ hv, H s.ls = some (.lst [.int s.z, .ref s.ca, .ref s.ka, hv]) ∧ HoldV K H hv s.hd ∧ CellAt K H s.ca s.cs ∧ H s.ka = some (.dK (kvsOf s.ks))
structure WoIn (H : Hp) (w : Addr) (W : Wo) : Prop where
  top : H w = some (.lst [.ref W.S, .ref W.N, .int W.o])
  ins : ∀ p ∈ W.sp, SwIn K H p.2
  cel : ∀ p ∈ W.sn, CellAt K H p.2.1 p.2.2
abbrev spTab (H : Hp) (W : Wo) : Prop := TabAt (kdK K) (fun _ v (s : Sw) => v = .ref s.ls) eI H W.S W.sp
abbrev snTab (H : Hp) (W : Wo) : Prop := TabAt (kdT K) (fun _ v (s : Addr × Cells) => v = .ref s.1) eP H W.N W.sn
structure WoAt (H : Hp) (w : Addr) (W : Wo) : Prop extends WoIn K H w W where
  tsp : spTab K H W
  tsn : snTab K H W
end
structure WoOk (n : Nat) (w : Addr) (W : Wo) : Prop where
  nd : (own w W).Nodup
  kn : ∀ p ∈ W.sp, KNd p.2.ks
  om : ∀ p ∈ W.sn, p.1.2 ≤ W.o
  sps : W.sp.length ≤ n
  sns : W.sn.length ≤ n
  css : ∀ p ∈ W.sp, p.2.cs.length ≤ n
  kss : ∀ p ∈ W.sp, p.2.ks.length ≤ n
  cns : ∀ p ∈ W.sn, p.2.2.length ≤ n
section
variable {K : PySem.W.Frag} {H H' : Hp} {w : Addr} {W : Wo} {n : Nat}
theorem CellAt.at {c : Addr} {cs : Cells} (h : CellAt K H c cs) (e : ∀ o, H c = some o → H' c = some o) : CellAt K H' c cs := by
  obtain ⟨kvs, a, b⟩ := h
  exact ⟨kvs, e _ a, b⟩
theorem TabAt.at {κ α β : Type} [DecidableEq κ] [DecidableEq α] {T : TKd K κ} {R : V → β → Prop} {emb : α → κ} {d : Addr} {l : List (α × β)} (h : TabAt T (fun _ => R) emb H d l) (e : ∀ o, H d = some o → H' d = some o) : TabAt T (fun _ => R) emb H' d l := by
  obtain ⟨kvs, a, b⟩ := h
  exact ⟨kvs, e _ a, b⟩
theorem SwIn.at {s : Sw} (h : SwIn K H s) (t : TK H H') (e : ∀ b ∈ ownS s, ∀ o, H b = some o → H' b = some o) : SwIn K H' s := by
  obtain ⟨hv, a, b, c, d⟩ := h
  exact ⟨hv, e _ (by simp [ownS]) _ a, b.tk t, CellAt.at c (e _ (by simp [ownS])), e _ (by simp [ownS]) _ d⟩
theorem own_sp {p : Int × Sw} (hp : p ∈ W.sp) {b : Addr} (hb : b ∈ ownS p.2) : b ∈ own w W :=
  List.mem_cons_of_mem _ (List.mem_cons_of_mem _ (List.mem_cons_of_mem _ (List.mem_append_left _ (List.mem_flatMap.mpr ⟨p, hp, hb⟩))))
theorem own_sn {p : (Int × Int) × Addr × Cells} (hp : p ∈ W.sn) : p.2.1 ∈ own w W :=
  List.mem_cons_of_mem _ (List.mem_cons_of_mem _ (List.mem_cons_of_mem _ (List.mem_append_right _ (List.mem_map.mpr ⟨p, hp, rfl⟩))))
theorem WoIn.at (h : WoIn K H w W) (t : TK H H') (e : ∀ b ∈ own w W, b ≠ W.S → b ≠ W.N → ∀ o, H b = some o → H' b = some o) (nd : (own w W).Nodup) : WoIn K H' w W := by
  have nd' : w ∉ _ ∧ _ := List.nodup_cons.mp nd
  have nd2 := List.nodup_cons.mp nd'.2
  have nd3 := List.nodup_cons.mp nd2.2
  have nS : ∀ b, b ∈ ((W.sp.flatMap fun p => ownS p.2) ++ W.sn.map fun p => p.2.1) → b ≠ W.S ∧ b ≠ W.N := fun b hb => ⟨fun z => nd2.1 (z ▸ List.mem_cons_of_mem _ hb), fun z => nd3.1 (z ▸ hb)⟩
  refine ⟨e _ List.mem_cons_self (fun z => nd'.1 (z ▸ List.mem_cons_self)) (fun z => nd'.1 (z ▸ List.mem_cons_of_mem _ List.mem_cons_self)) _ h.top, fun p hp => (h.ins p hp).at t fun b hb o ho => ?_, fun p hp => CellAt.at (h.cel p hp) fun o ho => ?_⟩
  · have m : b ∈ ((W.sp.flatMap fun p => ownS p.2) ++ W.sn.map fun p => p.2.1) := List.mem_append_left _ (List.mem_flatMap.mpr ⟨p, hp, hb⟩)
    exact e _ (own_sp hp hb) (nS _ m).1 (nS _ m).2 _ ho
  · have m : p.2.1 ∈ ((W.sp.flatMap fun p => ownS p.2) ++ W.sn.map fun p => p.2.1) := List.mem_append_right _ (List.mem_map.mpr ⟨p, hp, rfl⟩)
    exact e _ (own_sn hp) (nS _ m).1 (nS _ m).2 _ ho
theorem WoIn.same (h : WoIn K H w W) (s : Same H H') : WoIn K H' w W := ⟨s _ _ h.top, fun p hp => (h.ins p hp).at (TK.of s) fun b _ o ho => s _ _ ho, fun p hp => CellAt.at (h.cel p hp) fun o ho => s _ _ ho⟩
theorem WoAt.same (h : WoAt K H w W) (s : Same H H') : WoAt K H' w W := ⟨h.toWoIn.same s, TabAt.at h.tsp fun o ho => s _ _ ho, TabAt.at h.tsn fun o ho => s _ _ ho⟩
theorem WoAt.off {xs : List Addr} (h : WoAt K H w W) (t : TK H H') (o : Off xs H H') (nd : (own w W).Nodup) (n : ∀ b ∈ own w W, b ∉ xs) : WoAt K H' w W :=
  ⟨h.toWoIn.at t (fun b hb _ _ u hu => o _ _ hu (n _ hb)) nd, TabAt.at h.tsp fun u hu => o _ _ hu (n _ (by simp [own])), TabAt.at h.tsn fun u hu => o _ _ hu (n _ (by simp [own]))⟩
theorem WoAt.some (h : WoAt K H w W) : ∀ b ∈ own w W, ∃ o, H b = some o := by
  intro b hb
  rcases List.mem_cons.mp hb with rfl | hb
  · exact ⟨_, h.top⟩
  rcases List.mem_cons.mp hb with rfl | hb
  · obtain ⟨_, a, _⟩ := h.tsp; exact ⟨_, a⟩
  rcases List.mem_cons.mp hb with rfl | hb
  · obtain ⟨_, a, _⟩ := h.tsn; exact ⟨_, a⟩
  rcases List.mem_append.mp hb with hb | hb
  · obtain ⟨p, hp, hb⟩ := List.mem_flatMap.mp hb
    obtain ⟨hv, a, _, ⟨_, c, _⟩, d⟩ := h.ins p hp
    have hb' : b = p.2.ls ∨ b = p.2.ca ∨ b = p.2.ka := by simpa [ownS] using hb
    rcases hb' with rfl | rfl | rfl
    · exact ⟨_, a⟩
    · exact ⟨_, c⟩
    · exact ⟨_, d⟩
  · obtain ⟨p, hp, rfl⟩ := List.mem_map.mp hb
    obtain ⟨_, c, _⟩ := h.cel p hp
    exact ⟨_, c⟩
theorem look_sp {W : Wo} {n : Int} {s : Sw} (h : lookI W.sp n = some s) : (n, s) ∈ W.sp := Sg.look_mem h
end
end Sg.Fe

set_option Elab.async false
set_option linter.all false
set_option maxRecDepth 100000
set_option maxHeartbeats 4000000
namespace Sg.Fe
open PySem PySem.Spec PyProof.Rows L2
/-! ### the state that the world stands for -/
/-- for k in d: turns over the keys of either kind of table -/
theorem for_keys {K : PySem.W.Frag} {κ : Type} [DecidableEq κ] (T : TKd K κ) {td : TE} {g : TG} {tb : TS} {D : Ends} {σ : L2.St} {H : Hp} {d : Addr} {od : Obj} {l : List (κ × V)} (ht : ∀ R : VK, R (.ref d) H → td σ H R) (hd : H d = some (.frz od (T.ho l)))
    (Pv : Nat → L2.St → Hp → Prop) (h0 : Pv 0 σ H) (hG : ∀ i σ H, i ≤ l.length → Pv i σ H → H d = some (.frz od (T.ho l)))
    (hs : ∀ i x σ H' k v, l[i]? = some (k, v) → Pv i σ H' → T.at' H' x k → g x σ H' fun σ2 H2 => tb { D with nx := Pv (i + 1), ct := Pv (i + 1), bk := D.nx } σ2 H2) (hq : ∀ σ H, Pv l.length σ H → D.nx σ H) : tFor (iKeys td) g tb D σ H :=
  ht _ ⟨d, od, rfl, T.walk (R := fun J H1 => ∃ W : Nat → Nat → L2.St → Hp → Prop, (∃ m, W 0 m σ H1) ∧ ∀ i m σ H, W i m σ H → (J.stop i H ∧ D.nx σ H) ∨ (J.go i H ∧ ∃ N : L2.St → Hp → Prop, (∀ σ' H', N σ' H' → ∃ m', m' < m ∧ W (i + 1) m' σ' H') ∧ ∀ x H', J.yld i H x H' → g x σ H' fun σ2 H2 => tb { D with nx := N, ct := N, bk := D.nx } σ2 H2)) hd fun J wk =>
    for_it wk Pv h0 hG (fun i x σ H H' hi p y => by
      obtain ⟨rfl, k, v, hk, ha⟩ := y
      exact hs i x σ _ k v hk p ha) hq⟩
theorem tk_unlock' {H : Hp} {d : Addr} {od : Obj} {o u : HO} (h : H d = some (.frz od o)) (n : ∀ xs, o ≠ .tup xs) : TK H (upd H d u) := by
  refine ⟨fun a l e => ?_, fun a b l e => ?_⟩
  · have : a ≠ d := fun z => by rw [z, h] at e; cases e
    rw [upd_ne this]; exact e
  · have : a ≠ d := fun z => by rw [z, h] at e; injection e with e; injection e with _ e; exact n _ e
    rw [upd_ne this]; exact e
theorem take_fresh {α β : Type} : ∀ {l : List (α × β)} {i : Nat} {x : α × β}, (l.map (·.1)).Nodup → l[i]? = some x → x.1 ∉ (l.take i).map (·.1)
  | [], _, _, _, h => by simp at h
  | y :: l, 0, x, _, _ => by simp
  | y :: l, i + 1, x, nd, h => by
    have nd' : y.1 ∉ l.map (·.1) ∧ (l.map (·.1)).Nodup := List.nodup_cons.mp nd
    have h' : l[i]? = some x := by simpa using h
    rw [List.take_succ_cons, List.map_cons]
    intro m
    rcases List.mem_cons.mp m with e | m
    · exact nd'.1 (e ▸ List.mem_map.mpr ⟨x, List.mem_of_getElem? h', rfl⟩)
    · exact take_fresh nd'.2 h' m
theorem lookI_no {α β : Type} [DecidableEq α] {l : List (α × β)} {k : α} (h : k ∉ l.map (·.1)) : lookI l k = none := by
  cases e : lookI l k with
  | none => rfl
  | some v => exact absurd (List.mem_map.mpr ⟨_, Sg.look_mem e, rfl⟩) h
theorem lookI_of {α β : Type} [DecidableEq α] : ∀ {l : List (α × β)} {k : α} {v : β}, (l.map (·.1)).Nodup → (k, v) ∈ l → lookI l k = some v
  | [], _, _, _, h => by cases h
  | (a, b) :: l, k, v, nd, h => by
    have nd' : a ∉ l.map (·.1) ∧ (l.map (·.1)).Nodup := List.nodup_cons.mp nd
    rcases List.mem_cons.mp h with e | h
    · cases e; simp [lookI]
    · have ne : ¬ a = k := fun e => nd'.1 (e ▸ List.mem_map.mpr ⟨_, h, rfl⟩)
      have := lookI_of nd'.2 h
      unfold lookI at this ⊢
      rw [List.find?_cons_of_neg (by simpa using ne)]; exact this
theorem val_none {κ α β : Type} [DecidableEq κ] [DecidableEq α] {R : V → β → Prop} {emb : α → κ} (he : ∀ a b, emb a = emb b → a = b) {k : α} {kvs : List (κ × V)} {l : List (α × β)} (pr : Paired (fun (p : κ × V) (q : α × β) => p.1 = emb q.1 ∧ R p.2 q.2) kvs l) (h : k ∉ l.map (·.1)) : valV kvs (emb k) = none := by
  rcases pr_look (R := R) he (k := k) pr with ⟨_, hz⟩ | ⟨s, z, l0, _, _⟩
  · exact hz
  · rw [lookI_no h] at l0; cases l0
theorem put_new' {κ : Type} [DecidableEq κ] {kvs : List (κ × V)} {k : κ} {v : V} (h : valV kvs k = none) : putK kvs k v = kvs ++ [(k, v)] := by
  unfold putK
  rw [if_neg]
  rw [valV_any, h]
  exact Bool.false_ne_true
structure OneOf (p : Int × Sw) (q : Int × Spc) : Prop where
  nm : p.1 = q.1
  z : q.2.z = p.2.z
  cs : q.2.cs = p.2.cs
  rg : SortOf p.2.ks q.2.rg
  hd : q.2.hd = p.2.hd
structure StOf (W : Wo) (st : Sta) : Prop where
  o : st.o = W.o
  mr : st.mr = []
  sn : st.sn = W.sn.map fun p => (p.1, p.2.2)
  sp : Paired OneOf W.sp st.sp
theorem OneOf.one {p : Int × Sw} {q r : Int × Spc} (a : OneOf p q) (b : OneOf p r) : q = r := by
  obtain ⟨qn, ⟨qz, qc, qr, qh⟩⟩ := q
  obtain ⟨rn, ⟨rz, rc, rr, rh⟩⟩ := r
  have e1 : qn = rn := a.nm.symm.trans b.nm
  have e2 : qz = rz := a.z.trans b.z.symm
  have e3 : qc = rc := a.cs.trans b.cs.symm
  have e4 : qr = rr := a.rg.one b.rg
  have e5 : qh = rh := a.hd.trans b.hd.symm
  subst e1 e2 e3 e4 e5; rfl
theorem ones : ∀ {l : List (Int × Sw)} {m k : List (Int × Spc)}, Paired OneOf l m → Paired OneOf l k → m = k
  | _, _, _, .nil, .nil => rfl
  | _, _, _, .cons a b, .cons c d => by rw [a.one c, ones b d]
theorem StOf.one {W : Wo} {s t : Sta} (a : StOf W s) (b : StOf W t) : s = t := by
  obtain ⟨so, sp, sn, sm⟩ := s
  obtain ⟨to, tp, tn, tm⟩ := t
  have e1 : so = to := a.o.trans b.o.symm
  have e2 : sp = tp := ones a.sp b.sp
  have e3 : sn = tn := a.sn.trans b.sn.symm
  have e4 : sm = tm := a.mr.trans b.mr.symm
  subst e1 e2 e3 e4; rfl
def SpcX (K : PySem.W.Frag) (xs : List Addr) (H : Hp) (v : V) (s : Spc) : Prop := ∃ a c f, v = .ref a ∧ SqT K H a [.int s.z, .ref c, f] ∧ c ∉ xs ∧ CellAt K H c s.cs ∧ Sg.FenceAt K H f s.rg s.hd
def SnpX (K : PySem.W.Frag) (xs : List Addr) (H : Hp) (v : V) (cs : Cells) : Prop := ∃ c, v = .ref c ∧ c ∉ xs ∧ CellAt K H c cs
theorem SpcX.off {K : PySem.W.Frag} {xs : List Addr} {H H' : Hp} {v : V} {s : Spc} (h : SpcX K xs H v s) (o : Off xs H H') (t : TK H H') : SpcX K xs H' v s := by
  obtain ⟨a, c, f, e, h1, h2, h3, h4⟩ := h
  exact ⟨a, c, f, e, sqT_tk h1 t, h2, CellAt.at h3 fun u hu => o _ _ hu h2, h4.tk t⟩
theorem SnpX.off {K : PySem.W.Frag} {xs : List Addr} {H H' : Hp} {v : V} {s : Cells} (h : SnpX K xs H v s) (o : Off xs H H') : SnpX K xs H' v s := by
  obtain ⟨c, e, h2, h3⟩ := h
  exact ⟨c, e, h2, CellAt.at h3 fun u hu => o _ _ hu h2⟩
theorem SpcX.at {K : PySem.W.Frag} {xs : List Addr} {H : Hp} {v : V} {s : Spc} (h : SpcX K xs H v s) : SpcAt K H v s := by
  obtain ⟨a, c, f, e, h1, h2, h3, h4⟩ := h
  exact ⟨a, c, f, e, h1, h3, h4⟩
theorem SnpX.at {K : PySem.W.Frag} {xs : List Addr} {H : Hp} {v : V} {s : Cells} (h : SnpX K xs H v s) : SnpAt K H v s := by
  obtain ⟨c, e, h2, h3⟩ := h
  exact ⟨c, e, h3⟩
def spLState (K : PySem.W.Frag) : Sp := fun vs H Q _ => ∃ w W n, vs = [.ref w] ∧ WoAt K H w W ∧ WoOk n w W ∧ n ≤ 100 ∧ ∀ a st H', Same H H' → StOf W st → StAt K H' a st → Q (.ref a) H'
section
variable {P : Program} {wd : World} {K : PySem.W.Frag} {mg : Str → Option Value} {base : Heap} {f fF : Addr} {fd fdF : FuncData}
theorem scLState : FnScope ["world", "spaces", "name", "space", "snaps"] ["world"] (defScope sLState) := ⟨rfl, rfl, rfl, by decide +kernel, rfl, by decide +kernel, by decide +kernel⟩
theorem ok_lstate (F : Fun K "_law_state" "_law_state" sLState f fd) (D0 : mg "dict" = none) (GF : Def P wd K mg base CX0 "_law_fence" 1 ["keys", "holder"] (spLFence K) fF fdF) : FnOk P wd K mg base CX0 2 f fd ["world"] (spLState K) := by
  refine F.ok scLState (fun vs H Q E h => ?_) (fun cdv A outer s H vs Q E hr h => ?_)
  · obtain ⟨w, W, n, rfl, _⟩ := h
    rfl
  · obtain ⟨w, W, n, rfl, WA, WK, hn, q⟩ := h
    have hr1 : Room 1 _ := hr
    refine ⟨_, (pss_cons (ps_set (i := 1) scLState.nd rfl (Or.inl rfl) pe_dnewK)
      (pss_cons (ps_lock (ps_for PassesOwn.never rfl (pi_keys (pe_ix ix_list (pv 0) pe_int (fun _ _ => rfl))) (pg_name (i := 2) scLState.nd rfl (Or.inl rfl))
      (pss_cons (ps_set (i := 3) scLState.nd rfl (Or.inl rfl) (pe_dget (hu_of hr) (pe_ix ix_list (pv 0) pe_int (fun _ _ => rfl)) (pv 2) (fun _ _ => rfl)))
      (pss_one (ps_dput (hu_of hr) (pv 1) (pv 2) (pe_tup (pa_cons (pe_ix ix_list (pv 3) pe_int (fun _ _ => rfl)) (pa_cons (pe_callTy call_dictD (by rfl) D0 (by decide +kernel) (pa_cons (pe_ix ix_list (pv 3) pe_int (fun _ _ => rfl)) pa_nil)) (pa_cons (pe_call GF.ok hr1 (by rfl) GF.mg GF.kp GF.bd .nil pass0 (pa_cons (pe_ix ix_list (pv 3) pe_int (fun _ _ => rfl)) (pa_cons (pe_ix ix_list (pv 3) pe_int (fun _ _ => rfl)) pa_nil))) pa_nil)))) rfl)))))
      (pss_cons (ps_set (i := 4) scLState.nd rfl (Or.inl rfl) pe_dnewT)
      (pss_cons (ps_lock (ps_for PassesOwn.never rfl (pi_keys (pe_ix ix_list (pv 0) pe_int (fun _ _ => rfl))) (pg_name (i := 2) scLState.nd rfl (Or.inl rfl))
      (pss_one (ps_dput (hu_of hr) (pv 4) (pv 2) (pe_callTy call_dictD (by rfl) D0 (by decide +kernel) (pa_cons (pe_dget (hu_of hr) (pe_ix ix_list (pv 0) pe_int (fun _ _ => rfl)) (pv 2) (fun _ _ => rfl)) pa_nil)) rfl))))
      (pss_one (ps_ret (pe_disp (pps_cons pe_str (pe_ix ix_list (pv 0) pe_int (fun _ _ => rfl)) (pps_cons pe_str (pv 1) (pps_cons pe_str (pv 4) (pps_cons pe_str pe_dnewK pps_nil)))) rfl rfl (by decide) (by decide)))))))), ?_⟩
    obtain ⟨kvs, hS, pr, nk⟩ := id WA.tsp
    obtain ⟨kvs2, hN, pr2, nk2⟩ := id WA.tsn
    have nd' := List.nodup_cons.mp WK.nd
    have nd2 := List.nodup_cons.mp nd'.2
    have wS : w ≠ W.S := fun z => nd'.1 (z ▸ List.mem_cons_self)
    have wN : w ≠ W.N := fun z => nd'.1 (z ▸ List.mem_cons_of_mem _ List.mem_cons_self)
    have SN : W.S ≠ W.N := fun z => nd2.1 (z ▸ List.mem_cons_self)
    refine fun D hD => ?_
    have s0 := same_new (o := .dK []) hD
    have hD0 : (upd H D (.dK [])) D = some (.dK []) := upd_same
    have hS0 := s0 _ _ hS
    have nDS : D ≠ W.S := fun z => by rw [z, hS] at hD; cases hD
    generalize upd H D (.dK []) = H0 at s0 hD0 hS0
    refine ⟨W.S, _, hS0, True.intro, fun od => ?_⟩
    -- the lock
    have L0 : Off [W.S] H0 (upd H0 W.S (.frz od ((kdK K).ho kvs))) := Off.upd (List.mem_singleton.mpr rfl)
    have tk0 : TK H0 (upd H0 W.S (.frz od ((kdK K).ho kvs))) := tk_upd hS0 (fun _ z => nomatch z) (fun _ _ z => nomatch z)
    have hL : (upd H0 W.S (.frz od ((kdK K).ho kvs))) W.S = some (.frz od ((kdK K).ho kvs)) := upd_same
    have hDL : (upd H0 W.S (.frz od ((kdK K).ho kvs))) D = some (.dK []) := by rw [upd_ne nDS]; exact hD0
    generalize upd H0 W.S (.frz od ((kdK K).ho kvs)) = HL at L0 tk0 hL hDL
    have WL : WoIn K HL w W := (WA.toWoIn.same s0).at tk0 (fun b hb nS _ u hu => L0 _ _ hu (by simpa using nS)) WK.nd
    have fresh : ∀ b ∈ own w W, b ≠ D := fun b hb z => by
      obtain ⟨o, ho⟩ := WA.some b hb
      rw [z, hD] at ho; cases ho
    have dS : W.S ≠ D := fun z => nDS z.symm
    have lenK : kvs.length = W.sp.length := Paired.length pr
    have hsm : ∀ i, i ≤ W.sp.length → i ≤ 1000 := fun i hi => by have := WK.sps; omega
    refine for_keys (kdK K) (d := W.S) (l := kvs) (fun R r => ⟨_, rfl, w, _, _, _, rfl, rfl, SqL.of WL.top, atI_nat (j := 0) rfl, r⟩) hL
      (fun i σ' G => ∃ v2 v3 kv' sps, σ' = [some (.ref w), some (.ref D), v2, v3, none] ∧ Off [D] HL G ∧ TK HL G ∧ G D = some (.dK kv') ∧ Paired (fun (p : Key × V) (q : Int × Spc) => p.1 = eI q.1 ∧ SpcX K [D, W.S] G p.2 q.2) kv' sps ∧ Paired OneOf (W.sp.take i) sps)
      ⟨none, none, [], [], rfl, fun _ _ e _ => e, ⟨fun _ _ e => e, fun _ _ _ e => e⟩, hDL, .nil, by rw [List.take_zero]; exact .nil⟩ (fun i σ' G _ ⟨_, _, _, _, _, o, _⟩ => o _ _ hL (by simpa using dS)) (fun i x σ' G k v hk ⟨v2, v3, kv', sps, hσ, oG, tG, hDG, prG, pr1⟩ hx => ?_) (fun σ' G ⟨v2, v3, kv', sps, hσ, oG, tG, hDG, prG, pr1⟩ => ?_)
    · subst hσ
      obtain ⟨⟨n', sw⟩, hsw, ek, ev⟩ := paired_at pr hk
      obtain rfl : k = eI n' := ek
      obtain rfl : v = .ref sw.ls := ev
      obtain rfl : x = .int n' := hx
      have hm := List.mem_of_getElem? hsw
      have WG : WoIn K G w W := WL.at tG (fun b hb _ _ u hu => oG _ _ hu (by simpa using fresh _ hb)) WK.nd
      have hSG : G W.S = some (.frz od (.dK kvs)) := oG _ _ hL (by simpa using dS)
      have lk : lookI W.sp n' = some sw := lookI_of nk hm
      have hz : valV kvs (eI n') = some (.ref sw.ls) := by
        rcases pr_look (R := fun v (s : Sw) => v = .ref s.ls) eI_inj (k := n') pr with ⟨l0, _⟩ | ⟨s', z, l0, hz, az⟩
        · rw [l0] at lk; cases lk
        · rw [l0] at lk; cases lk; rw [hz, az]
      obtain ⟨hv, hls, hhold, ⟨ckv, hca, cpr, cnd⟩, hka⟩ := WG.ins _ hm
      refine ⟨_, rfl, w, _, _, _, rfl, rfl, SqL.of WG.top, atI_nat (j := 0) rfl, _, rfl, W.S, _, rfl, .inl ⟨_, eI n', .inr ⟨od, hSG⟩, rfl, hz.symm⟩, ?_⟩
      refine ⟨_, rfl, sw.ls, _, _, _, rfl, rfl, SqL.of hls, atI_nat (j := 0) rfl, _, rfl, sw.ls, _, _, _, rfl, rfl, SqL.of hls, atI_nat (j := 1) rfl, sw.ca, ckv, rfl, .inl hca, fun c' hc' => ?_⟩
      have s1 := same_new (o := .dK ckv) hc'
      have hcc : CellAt K (upd G c' (.dK ckv)) c' sw.cs := ⟨ckv, upd_same, cpr, cnd⟩
      generalize upd G c' (.dK ckv) = G1 at s1 hcc
      refine ⟨_, rfl, sw.ls, _, _, _, rfl, rfl, SqL.of (s1 _ _ hls), atI_nat (j := 2) rfl, _, rfl, sw.ls, _, _, _, rfl, rfl, SqL.of (s1 _ _ hls), atI_nat (j := 3) rfl, ?_⟩
      refine ⟨sw.ka, hv, sw.ks, sw.hd, rfl, s1 _ _ hka, WK.kn _ hm, Nat.le_trans (WK.kss _ hm) (by omega), hhold.tk (TK.of s1), fun a rs G2 s2 so fa => ⟨by show 3 ≤ sizeLine; decide, fun t ht => ?_⟩⟩
      have s3 := same_new (o := .tup [V.int sw.z, .ref c', .ref a]) ht
      have ht3 : (upd G2 t (.tup [V.int sw.z, .ref c', .ref a])) t = some (.tup [V.int sw.z, .ref c', .ref a]) := upd_same
      generalize upd G2 t (.tup [V.int sw.z, .ref c', .ref a]) = G3 at s3 ht3
      have s13 := s1.trans (s2.trans s3)
      have hD3 := s13 _ _ hDG
      have fr : eI n' ∉ (kv'.map (·.1)) ∧ n' ∉ sps.map (·.1) := by
        have e1 := pr_keys (R := fun v (s : Spc) => SpcX K [D, W.S] G v s) (emb := eI) prG
        have e2 : ∀ {l : List (Int × Sw)} {m : List (Int × Spc)}, Paired OneOf l m → m.map (·.1) = l.map (·.1) := fun {l m} p => by
          induction p with
          | nil => rfl
          | cons a b ih => rw [List.map_cons, List.map_cons, ih, a.nm]
        have h2 : n' ∉ sps.map (·.1) := by rw [e2 pr1]; exact take_fresh nk hsw
        refine ⟨fun m => ?_, h2⟩
        rw [e1] at m
        obtain ⟨q', h3, h4⟩ := List.mem_map.mp m
        exact h2 (List.mem_map.mpr ⟨q', h3, eI_inj _ _ h4⟩)
      have vn : valV kv' (eI n') = none := val_none (R := fun v (s : Spc) => SpcX K [D, W.S] G v s) eI_inj prG fr.2
      have kl : kv'.length = sps.length := Paired.length prG
      have pl : (W.sp.take i).length = sps.length := Paired.length pr1
      have tl : (W.sp.take i).length ≤ W.sp.length := by rw [List.length_take]; omega
      have := WK.sps
      refine ⟨_, rfl, _, rfl, D, _, rfl, DPut.k (k := eI n') hD3 (small1000 (by omega)), ?_⟩
      rw [put_new' vn]
      have o4 : Off [D] G3 (upd G3 D (.dK (kv' ++ [(eI n', V.ref t)]))) := Off.upd (List.mem_singleton.mpr rfl)
      have t4 : TK G3 (upd G3 D (.dK (kv' ++ [(eI n', V.ref t)]))) := tk_upd hD3 (fun _ z => nomatch z) (fun _ _ z => nomatch z)
      have h4 : (upd G3 D (.dK (kv' ++ [(eI n', V.ref t)]))) D = some (.dK (kv' ++ [(eI n', V.ref t)])) := upd_same
      generalize upd G3 D (.dK (kv' ++ [(eI n', V.ref t)])) = G4 at o4 t4 h4
      have cD : c' ∉ [D, W.S] := fun m => by
        rcases List.mem_cons.mp m with z | m
        · rw [z, hDG] at hc'; cases hc'
        · rw [List.mem_singleton.mp m, hSG] at hc'; cases hc'
      have wide : Off [D, W.S] G3 G4 := fun b o e m => o4 _ _ e (fun z => m (List.mem_cons.mpr (.inl (List.mem_singleton.mp z))))
      have tG4 : TK G G4 := (TK.of s13).trans t4
      have oG4 : Off [D, W.S] G G4 := fun b o e m => wide _ _ (s13 _ _ e) m
      refine ⟨_, _, _, sps ++ [(n', ⟨sw.z, sw.cs, rs, sw.hd⟩)], rfl, fun b o e m => o4 _ _ (s13 _ _ (oG _ _ e m)) m, tG.trans tG4, h4, ?_, ?_⟩
      · refine pr_snoc (R := fun (p : Key × V) (q : Int × Spc) => p.1 = eI q.1 ∧ SpcX K [D, W.S] G4 p.2 q.2) ⟨rfl, ?_⟩ (Paired.imp2 (fun (p : Key × V) (q : Int × Spc) z => ⟨z.1, z.2.off oG4 tG4⟩) prG)
        exact SpcX.off ⟨t, c', .ref a, rfl, SqT.of ht3, cD, CellAt.at hcc (fun u hu => (s2.trans s3) _ _ hu), fa.tk (TK.of s3)⟩ wide t4
      · rw [List.take_add_one, hsw]
        exact pr_snoc (R := OneOf) ⟨rfl, rfl, rfl, so, rfl⟩ pr1
    · subst hσ
      rw [lenK, List.take_length] at pr1
      have hSG : G W.S = some (.frz od (.dK kvs)) := oG _ _ hL (by simpa using dS)
      refine ⟨hSG, ?_⟩
      have tU : TK G (upd G W.S ((kdK K).ho kvs)) := tk_unlock' hSG (fun xs z => nomatch z)
      have oU : Off [D, W.S] G (upd G W.S ((kdK K).ho kvs)) := Off.upd (by simp)
      have hDF : (upd G W.S ((kdK K).ho kvs)) D = some (.dK kv') := by rw [upd_ne nDS]; exact hDG
      have sF : Same H (upd G W.S ((kdK K).ho kvs)) := fun b o e => by
        have nb : b ≠ D := fun z => by rw [z, hD] at e; cases e
        by_cases z : b = W.S
        · rw [z, hS] at e; cases e
          rw [z]; exact upd_same
        · rw [upd_ne z]; exact oG _ _ (L0 _ _ (s0 _ _ e) (by simpa using z)) (by simpa using nb)
      generalize upd G W.S ((kdK K).ho kvs) = F1 at tU oU hDF sF
      have e2 : sps.map (·.1) = W.sp.map (·.1) := by
        have : ∀ {l : List (Int × Sw)} {m : List (Int × Spc)}, Paired OneOf l m → m.map (·.1) = l.map (·.1) := fun {l m} p => by
          induction p with
          | nil => rfl
          | cons a b ih => rw [List.map_cons, List.map_cons, ih, a.nm]
        exact this pr1
      have SPT : TabAt (kdK K) (SpcAt K) eI F1 D sps := ⟨kv', hDF, Paired.imp2 (fun (p : Key × V) (q : Int × Spc) (z : p.1 = eI q.1 ∧ SpcX K [D, W.S] G p.2 q.2) => ⟨z.1, (z.2.off oU tU).at⟩) prG, by rw [e2]; exact nk⟩
      clear prG hDG tG oG hSG oU tU
      intro D2 hD2
      have WF := WA.toWoIn.same sF
      have hN1 := sF _ _ hN
      have s5 := same_new (o := .dT []) hD2
      have hD5 : (upd F1 D2 (.dT [])) D2 = some (.dT []) := upd_same
      have hN5 := s5 _ _ hN1
      have nDN : D2 ≠ W.N := fun z => by rw [z, hN1] at hD2; cases hD2
      generalize upd F1 D2 (.dT []) = H5 at s5 hD5 hN5
      refine ⟨W.N, _, hN5, True.intro, fun od2 => ?_⟩
      have L5 : Off [W.N] H5 (upd H5 W.N (.frz od2 ((kdT K).ho kvs2))) := Off.upd (List.mem_singleton.mpr rfl)
      have tk5 : TK H5 (upd H5 W.N (.frz od2 ((kdT K).ho kvs2))) := tk_upd hN5 (fun _ z => nomatch z) (fun _ _ z => nomatch z)
      have hL5 : (upd H5 W.N (.frz od2 ((kdT K).ho kvs2))) W.N = some (.frz od2 ((kdT K).ho kvs2)) := upd_same
      have hDL5 : (upd H5 W.N (.frz od2 ((kdT K).ho kvs2))) D2 = some (.dT []) := by rw [upd_ne nDN]; exact hD5
      generalize upd H5 W.N (.frz od2 ((kdT K).ho kvs2)) = HM at L5 tk5 hL5 hDL5
      have WM : WoIn K HM w W := (WF.same s5).at tk5 (fun b hb _ nN u hu => L5 _ _ hu (by simpa using nN)) WK.nd
      have fresh2 : ∀ b ∈ own w W, b ≠ D2 := fun b hb z => by
        obtain ⟨o, ho⟩ := WA.some b hb
        rw [z] at ho; rw [sF _ _ ho] at hD2; cases hD2
      have dN : W.N ≠ D2 := fun z => nDN z.symm
      refine for_keys (kdT K) (d := W.N) (l := kvs2) (fun R r => ⟨_, rfl, w, _, _, _, rfl, rfl, SqL.of WM.top, atI_nat (j := 1) rfl, r⟩) hL5
        (fun i σ' G => ∃ v2 kv', σ' = [some (.ref w), some (.ref D), v2, v3, some (.ref D2)] ∧ Off [D2] HM G ∧ TK HM G ∧ G D2 = some ((kdT K).ho kv') ∧ Paired (fun (p : List Key × V) (q : (Int × Int) × Cells) => p.1 = eP q.1 ∧ SnpX K [D2, W.N] G p.2 q.2) kv' ((W.sn.take i).map fun p => (p.1, p.2.2)))
        ⟨v2, [], rfl, fun _ _ e _ => e, ⟨fun _ _ e => e, fun _ _ _ e => e⟩, hDL5, by rw [List.take_zero]; exact .nil⟩ (fun i σ' G _ ⟨_, _, _, o, _⟩ => o _ _ hL5 (by simpa using dN)) (fun i x σ' G k v hk ⟨v2, kv', hσ, oG, tG, hDG, prG⟩ hx => ?_) (fun σ' G ⟨v2, kv', hσ, oG, tG, hDG, prG⟩ => ?_)
      · subst hσ
        obtain ⟨⟨nm, ca, cs⟩, hsw, ek, ev⟩ := paired_at pr2 hk
        obtain rfl : k = eP nm := ek
        obtain rfl : v = .ref ca := ev
        have hm := List.mem_of_getElem? hsw
        have WG : WoIn K G w W := WM.at tG (fun b hb _ _ u hu => oG _ _ hu (by simpa using fresh2 _ hb)) WK.nd
        have hNG : G W.N = some (.frz od2 ((kdT K).ho kvs2)) := oG _ _ hL5 (by simpa using dN)
        have lk : lookI W.sn nm = some (ca, cs) := lookI_of nk2 hm
        have hz : valV kvs2 (eP nm) = some (.ref ca) := by
          rcases pr_look (R := fun v (s : Addr × Cells) => v = .ref s.1) eP_inj (k := nm) pr2 with ⟨l0, _⟩ | ⟨s', z, l0, hz, az⟩
          · rw [l0] at lk; cases lk
          · rw [l0] at lk; cases lk; rw [hz, az]
        obtain ⟨ckv, hca, cpr, cnd⟩ := WG.cel _ hm
        refine ⟨_, rfl, w, _, _, _, rfl, rfl, SqL.of WG.top, atI_nat (j := 1) rfl, _, rfl, W.N, _, rfl, hz ▸ (kdT K).get (.inr ⟨od2, hNG⟩) hx, ca, ckv, rfl, .inl hca, fun c' hc' => ?_⟩
        have s1 := same_new (o := .dK ckv) hc'
        have hcc : CellAt K (upd G c' (.dK ckv)) c' cs := ⟨ckv, upd_same, cpr, cnd⟩
        generalize upd G c' (.dK ckv) = G1 at s1 hcc
        have hD3 := s1 _ _ hDG
        have fr : nm ∉ ((W.sn.take i).map fun p => (p.1, p.2.2)).map (·.1) := by
          rw [List.map_map]
          exact take_fresh nk2 hsw
        have vn : valV kv' (eP nm) = none := val_none (R := fun v (s : Cells) => SnpX K [D2, W.N] G v s) eP_inj prG fr
        have kl : kv'.length = ((W.sn.take i).map fun p => (p.1, p.2.2)).length := Paired.length prG
        have tl : ((W.sn.take i).map fun p => (p.1, p.2.2)).length ≤ W.sn.length := by rw [List.length_map, List.length_take]; omega
        have := WK.sns
        refine ⟨_, rfl, _, rfl, D2, _, rfl, (kdT K).put hD3 ((kdT K).tk (TK.of s1) hx) (small1000 (by omega)), ?_⟩
        rw [put_new' vn]
        have o4 : Off [D2] G1 (upd G1 D2 ((kdT K).ho (kv' ++ [(eP nm, V.ref c')]))) := Off.upd (List.mem_singleton.mpr rfl)
        have t4 : TK G1 (upd G1 D2 ((kdT K).ho (kv' ++ [(eP nm, V.ref c')]))) := tk_upd hD3 (fun _ z => nomatch z) (fun _ _ z => nomatch z)
        have h4 : (upd G1 D2 ((kdT K).ho (kv' ++ [(eP nm, V.ref c')]))) D2 = some ((kdT K).ho (kv' ++ [(eP nm, V.ref c')])) := upd_same
        generalize upd G1 D2 ((kdT K).ho (kv' ++ [(eP nm, V.ref c')])) = G4 at o4 t4 h4
        have cD : c' ∉ [D2, W.N] := fun m => by
          rcases List.mem_cons.mp m with z | m
          · rw [z, hDG] at hc'; cases hc'
          · rw [List.mem_singleton.mp m, hNG] at hc'; cases hc'
        have wide : Off [D2, W.N] G1 G4 := fun b o e m => o4 _ _ e (fun z => m (List.mem_cons.mpr (.inl (List.mem_singleton.mp z))))
        refine ⟨_, _, rfl, fun b o e m => o4 _ _ (s1 _ _ (oG _ _ e m)) m, tG.trans ((TK.of s1).trans t4), h4, ?_⟩
        rw [List.take_add_one, hsw, List.map_append]
        refine pr_snoc (R := fun (p : List Key × V) (q : (Int × Int) × Cells) => p.1 = eP q.1 ∧ SnpX K [D2, W.N] G4 p.2 q.2) ⟨rfl, ?_⟩ (Paired.imp2 (fun (p : List Key × V) (q : (Int × Int) × Cells) z => ⟨z.1, z.2.off (fun b o e m => wide _ _ (s1 _ _ e) m)⟩) prG)
        exact SnpX.off ⟨c', rfl, cD, hcc⟩ wide
      · subst hσ
        have len2 : kvs2.length = W.sn.length := Paired.length pr2
        rw [len2, List.take_length] at prG
        have hNG : G W.N = some (.frz od2 ((kdT K).ho kvs2)) := oG _ _ hL5 (by simpa using dN)
        refine ⟨hNG, ?_⟩
        have oU : Off [D2, W.N] G (upd G W.N ((kdT K).ho kvs2)) := Off.upd (by simp)
        have hDF2 : (upd G W.N ((kdT K).ho kvs2)) D2 = some ((kdT K).ho kv') := by rw [upd_ne nDN]; exact hDG
        have sF2 : Same F1 (upd G W.N ((kdT K).ho kvs2)) := fun b o e => by
          have nb : b ≠ D2 := fun z => by rw [z, hD2] at e; cases e
          by_cases z : b = W.N
          · rw [z, hN1] at e; cases e
            rw [z]; exact upd_same
          · rw [upd_ne z]; exact oG _ _ (L5 _ _ (s5 _ _ e) (by simpa using z)) (by simpa using nb)
        generalize upd G W.N ((kdT K).ho kvs2) = F2 at oU hDF2 sF2
        have SNT : TabAt (kdT K) (SnpAt K) eP F2 D2 (W.sn.map fun p => (p.1, p.2.2)) := ⟨kv', hDF2, Paired.imp2 (fun (p : List Key × V) (q : (Int × Int) × Cells) (z : p.1 = eP q.1 ∧ SnpX K [D2, W.N] G p.2 q.2) => ⟨z.1, (z.2.off oU).at⟩) prG, by rw [List.map_map]; exact nk2⟩
        have SPT2 : TabAt (kdK K) (SpcAt K) eI F2 D sps := TabAt.same (fun _ _ z => z.same sF2) sF2 SPT
        have s02 := sF.trans sF2
        intro D3 hD3
        have s6 := same_new (o := .dK []) hD3
        have u6 : (upd F2 D3 (.dK [])) D3 = some (.dK []) := upd_same
        generalize upd F2 D3 (.dK []) = F3 at s6 u6
        refine ⟨_, rfl, w, _, _, _, rfl, rfl, SqL.of (((WF.same sF2).same s6).top), atI_nat (j := 2) rfl, _, rfl, _, rfl, fun D4 hD4 => ?_⟩
        have s7 := same_new (o := .dK []) hD4
        have u7 : (upd F3 D4 (.dK [])) D4 = some (.dK []) := upd_same
        generalize upd F3 D4 (.dK []) = F4 at s7 u7
        have n43 : D4 ≠ D3 := fun z => by rw [z, u6] at hD4; cases hD4
        have sE : Same F2 (upd F4 D3 (.dK (mergeK [] (stK W.o D D2 D4)))) := fun b o e => by
          have : b ≠ D3 := fun z => by rw [z, hD3] at e; cases e
          rw [upd_ne this]; exact s7 _ _ (s6 _ _ e)
        refine ⟨s7 _ _ u6, stK W.o D D2 D4, rfl, by show 4 ≤ 15; decide, q D3 ⟨W.o, sps, W.sn.map fun p => (p.1, p.2.2), []⟩ _ (s02.trans sE) ⟨rfl, rfl, rfl, pr1⟩ ⟨D, D2, D4, upd_same, TabAt.same (fun _ _ z => z.same sE) sE SPT2, TabAt.same (fun _ _ z => z.same sE) sE SNT, [], by rw [upd_ne n43]; exact u7, .nil, List.nodup_nil⟩⟩
end
end Sg.Fe

set_option Elab.async false
set_option linter.all false
set_option maxRecDepth 100000
set_option maxHeartbeats 4000000
namespace Sg.Fe
open PySem PySem.Spec PyProof.Rows L2
/-! ### what is due, by the law -/
def spLHold (K : PySem.W.Frag) : Sp := fun vs H Q _ => ∃ (sw : Sw) (h : Int) (c : Addr) (word : Str) (rest : List V), vs = [.ref sw.ls, .int h, .ref c] ∧ SwIn K H sw ∧ SqT K H c (.str word :: rest) ∧ CmdOk word rest ∧ ∀ H', Same H H' → Q (.str (regDue sw.ks sw.hd h word rest)) H'
def spLFenced (K : PySem.W.Frag) : Sp := fun vs H Q _ => ∃ (sw : Sw) (h : Int) (key : Option Int) (c : Addr) (word : Str) (rest : List V), vs = [.ref sw.ls, .int h, optI key, .ref c] ∧ SwIn K H sw ∧ SqT K H c (.str word :: rest) ∧ CmdOk word rest ∧ ∀ H', Same H H' → Q (.str (due sw.ks sw.hd h key word rest)) H'
theorem SwIn.same {K : PySem.W.Frag} {H H' : Hp} {s : Sw} (h : SwIn K H s) (sm : Same H H') : SwIn K H' s := h.at (TK.of sm) fun b _ o ho => sm _ _ ho
theorem hold_non {K : PySem.W.Frag} {H : Hp} {hv : V} {hd : Option (Int × Str)} (h : HoldV K H hv hd) : decide (hv = V.non) = hd.isNone := by
  cases hd with
  | none => cases (show hv = .non from h); rfl
  | some x => obtain ⟨q, rfl, _⟩ := h; rfl
theorem look_some {ks : List (Int × Int)} {h : Int} : ((look ks h).map V.int).isSome = (look ks h).isSome := by cases look ks h <;> rfl
theorem sev_eq {x y : Str} : decide (V.str x = V.str y) = decide (x = y) := by
  by_cases e : x = y
  · subst e; rw [decide_eq_true rfl, decide_eq_true rfl]
  · rw [str_eqF e, decide_eq_false e]
theorem strIn5 {w a b c d e : Str} : strIn w [a, b, c, d, e] = (decide (w = a) || (decide (w = b) || (decide (w = c) || (decide (w = d) || decide (w = e))))) := by
  unfold strIn
  simp only [List.any_cons, List.any_nil, Bool.or_false, eq_comm]
theorem strIn2 {w a b : Str} : strIn w [a, b] = (decide (w = a) || decide (w = b)) := by
  unfold strIn
  simp only [List.any_cons, List.any_nil, Bool.or_false, eq_comm]
/-- another one holds it -/
def otherB (hd : Option (Int × Str)) (h : Int) : Bool := match hd with
  | none => false
  | some (g, _) => !decide (g = h)
def aloneB : Option (Int × Str) → Bool
  | none => false
  | some (_, w) => decide (w = "alone")
theorem keeps_eq {hd : Option (Int × Str)} {h : Int} {word : Str} : keepsOut hd h word = (otherB hd h && (strIn word changingL || (strIn word readingL && aloneB hd))) := by
  cases hd with
  | none => rfl
  | some x =>
    obtain ⟨g, w⟩ := x
    show (if g = h then false else strIn word changingL || (strIn word readingL && decide (w = "alone"))) = (!decide (g = h) && _)
    by_cases z : g = h
    · rw [if_pos z, decide_eq_true z]; rfl
    · rw [if_neg z, decide_eq_false z]; rfl
theorem strIn_reg {word : Str} (h : strIn word changingL = true ∨ strIn word readingL = true ∨ word = "register") : strIn word registeredL = false := by
  have h1 : ∀ w ∈ changingL, strIn w registeredL = false := by decide +kernel
  have h2 : ∀ w ∈ readingL, strIn w registeredL = false := by decide +kernel
  rcases h with h | h | rfl
  · unfold strIn at h
    obtain ⟨y, hy, e⟩ := List.any_eq_true.mp h
    rw [← of_decide_eq_true e]; exact h1 y hy
  · unfold strIn at h
    obtain ⟨y, hy, e⟩ := List.any_eq_true.mp h
    rw [← of_decide_eq_true e]; exact h2 y hy
  · decide +kernel
theorem reg_of {ks : List (Int × Int)} {hd : Option (Int × Str)} {h : Int} {word : Str} {rest : List V} (c : strIn word registeredL = false) (n : ¬ look ks h = none) : regDue ks hd h word rest = "" := by
  have e : ¬ word = "reserve" ∧ ¬ word = "release" ∧ ¬ word = "preempt" := by
    refine ⟨?_, ?_, ?_⟩ <;> (rintro rfl; exact absurd c (by decide +kernel))
  unfold regDue
  rw [if_neg n, if_neg e.1, if_neg e.2.1, if_neg e.2.2]
section
variable {P : Program} {wrl : World} {K : PySem.W.Frag} {mg : Str → Option Value} {base : Heap} {f fH : Addr} {fd fdH : FuncData}
theorem scLHold : FnScope ["space", "host", "command", "keys", "holder", "name"] ["space", "host", "command"] (defScope sLHold) := ⟨rfl, rfl, rfl, by decide +kernel, rfl, by decide +kernel, by decide +kernel⟩
theorem ok_lhold (F : Fun K "_law_hold" "_law_hold" sLHold f fd) : FnOk P wrl K mg base CX0 1 f fd ["space", "host", "command"] (spLHold K) := by
  refine F.ok scLHold (fun vs H Q E h => ?_) (fun cdv A outer s H vs Q E hr h => ?_)
  · obtain ⟨sw, h, c, word, rest, rfl, _⟩ := h
    rfl
  · obtain ⟨sw, h, c, word, rest, rfl, ⟨hv, hls, h4, _, h1⟩, hc, ok, q⟩ := h
    refine ⟨_, (pss_cons (ps_set (i := 3) scLHold.nd rfl (Or.inl rfl) (pe_ix ix_list (pv 0) pe_int (fun _ _ => rfl)))
      (pss_cons (ps_set (i := 4) scLHold.nd rfl (Or.inl rfl) (pe_ix ix_list (pv 0) pe_int (fun _ _ => rfl)))
      (pss_cons (ps_set (i := 5) scLHold.nd rfl (Or.inl rfl) (pe_ix ix_tup (pv 2) pe_int (fun _ _ => rfl)))
      (pss_cons (ps_if (pt_cmp (pc_dnotin (hu_of hr) (pv 1) (pv 3)))
      (pss_one (ps_ret pe_str)) pss_nil)
      (pss_cons (ps_if (PW.pt (pw_and (pt_cmpR op_eq (pv 5) pe_str (nomark _)) (pw_and (pt_cmpR op_notN (pv 4) pe_non (nomark _)) (pw_and1 (pt_cmpR (op_neD hr.units) (pv 4) (pe_tup (pa_cons (pv 1) (pa_cons (pe_ix ix_tup (pv 2) pe_int (fun _ _ => rfl)) pa_nil))) (nomark _))))))
      (pss_one (ps_ret pe_str)) pss_nil)
      (pss_cons (ps_if (PW.pt (pw_and (pt_cmpR op_eq (pv 5) pe_str (nomark _)) (pw_and1 (PW.pt (pw_or (pt_cmpR op_isN (pv 4) pe_non (nomark _)) (pw_or1 (pt_cmpR op_ne (pe_ix ix_tup (pv 4) pe_int (fun _ _ => rfl)) (pv 1) (nomark _))))))))
      (pss_one (ps_ret pe_str)) pss_nil)
      (pss_cons (ps_if (PW.pt (pw_and (pt_cmpR op_eq (pv 5) pe_str (nomark _)) (pw_and1 (pt_cmpR op_eq (pe_ix ix_tup (pv 2) pe_int (fun _ _ => rfl)) (pv 1) (nomark _)))))
      (pss_one (ps_ret pe_str)) pss_nil)
      (pss_cons (ps_if (PW.pt (pw_and (pt_cmpR op_eq (pv 5) pe_str (nomark _)) (pw_and1 (pt_cmp (pc_dnotin (hu_of hr) (pe_ix ix_tup (pv 2) pe_int (fun _ _ => rfl)) (pv 3))))))
      (pss_one (ps_ret pe_str)) pss_nil)
      (pss_one (ps_ret pe_str)))))))))), ?_⟩
    refine stSet0 (v := .ref sw.ka) (fun R r => ⟨_, rfl, sw.ls, _, _, _, rfl, rfl, SqL.of hls, atI_nat (j := 2) rfl, r⟩) ?_
    refine stSet0 (v := hv) (fun R r => ⟨_, rfl, sw.ls, _, _, _, rfl, rfl, SqL.of hls, atI_nat (j := 3) rfl, r⟩) ?_
    refine stSet0 (v := .str word) (fun R r => ⟨_, rfl, c, _, _, _, rfl, rfl, hc, atI_nat (j := 0) rfl, r⟩) ?_
    generalize sw.ks = ks at *
    generalize sw.hd = hd at *
    generalize hdd : sw.ka = d at *
    unfold regDue at q
    refine ifSn (b := (look ks h).isNone) (fun R r => ?_) (fun hb H1 s1 => ?_) (fun hb H1 s1 => ?_)
    · have g := DGet.k (k := Sum.inl h) h1
      refine ⟨_, rfl, _, rfl, d, _, rfl, g, _, rfl, ?_⟩
      rw [val_look, look_some]
      have e : (!(look ks h).isSome) = (look ks h).isNone := by cases look ks h <;> rfl
      rw [e]
      exact r H (Same.refl H)
    · have := q H1 s1
      rw [if_pos (by cases e : look ks h with | none => rfl | some v => rw [e] at hb; cases hb)] at this
      exact this
    have t1 := TK.of s1
    have hne : ¬ look ks h = none := by intro e; rw [e] at hb; cases hb
    have q1 : ∀ H', Same H1 H' → Q _ H' := fun H' s' => q H' (s1.trans s')
    rw [if_neg hne] at q1
    have h41 := h4.tk t1
    by_cases e1 : word = "reserve"
    · obtain ⟨n, w, rfl, wok⟩ := ok.res e1
      rw [if_pos e1] at q1
      have q2 : ∀ H', Same H1 H' → Q (.str (if hd = none ∨ hd = some (h, w) then "" else "conflict")) H' := q1
      refine ifSn (b := !decide (hd = none ∨ hd = some (h, w))) (fun R r => ?_) (fun hb2 H2 s2 => ?_) (fun hb2 H2 s2 => ?_)
      · refine ⟨_, rfl, rfl, _, rfl, ?_⟩
        rw [decide_eq_true (show V.str word = V.str "reserve" by rw [e1])]
        refine iteT ⟨_, rfl, rfl, _, rfl, ?_⟩
        rw [hold_non h41]
        cases hd with
        | none =>
          refine iteF ?_
          rw [decide_eq_true (Or.inl rfl)] at r
          exact r H1 (Same.refl H1)
        | some x =>
          refine iteT ⟨_, rfl, _, rfl, _, rfl, c, _, _, _, rfl, rfl, sqT_tk hc t1, atI_nat (j := 2) rfl, by show 2 ≤ sizeLine; decide, fun t ht => ?_⟩
          have s2 := same_new (o := .tup [V.int h, V.str w]) ht
          refine ⟨_, _, (h41.tk (TK.of s2)).dp, .tup (SqT.of upd_same) (.cons (.int _) (.cons (.str _) .nil)), hold_shaped h41.sok, hold_shaped (hd := some (h, w)) wok, _, rfl, ?_⟩
          rw [show PyData.eqv (holdD (some x)) (.tuple [.int h, .str w]) = _ from hold_eqv (some x) (some (h, w))]
          have e : decide (some x = none ∨ some x = some (h, w)) = decide (some x = some (h, w)) := by
            rw [Bool.eq_iff_iff]; simp
          rw [e] at r
          exact r _ s2
      · have hf : ¬ (hd = none ∨ hd = some (h, w)) := by
          intro z; rw [decide_eq_true z] at hb2; cases hb2
        have := q2 H2 s2
        rw [if_neg hf] at this
        exact this
      · have hf : (hd = none ∨ hd = some (h, w)) := by
          by_cases z : hd = none ∨ hd = some (h, w)
          · exact z
          · rw [decide_eq_false z] at hb2; cases hb2
        have t2 := t1.trans (TK.of s2)
        refine ⟨_, rfl, rfl, _, rfl, ?_⟩
        rw [str_eqF (show ¬ word = "release" by rw [e1]; decide)]
        refine iteF (iteF ?_)
        refine ⟨_, rfl, rfl, _, rfl, ?_⟩
        rw [str_eqF (show ¬ word = "preempt" by rw [e1]; decide)]
        refine iteF (iteF ⟨_, rfl, rfl, _, rfl, ?_⟩)
        rw [str_eqF (show ¬ word = "preempt" by rw [e1]; decide)]
        refine iteF (iteF ?_)
        have := q2 H2 s2
        rw [if_pos hf] at this
        exact this
    rw [if_neg e1] at q1
    refine ifSn (b := false) (fun R r => ?_) (fun z => nomatch z) (fun _ H2 s2 => ?_)
    · refine ⟨_, rfl, rfl, _, rfl, ?_⟩
      rw [str_eqF e1]
      exact iteF (r H1 (Same.refl H1))
    have t2 := t1.trans (TK.of s2)
    have h42 := h41.tk (TK.of s2)
    by_cases e2 : word = "release"
    · rw [if_pos e2] at q1
      refine ifSn (b := decide (wayV hd h = .non)) (fun R r => ?_) (fun hb2 H3 s3 => ?_) (fun hb2 H3 s3 => ?_)
      · refine ⟨_, rfl, rfl, _, rfl, ?_⟩
        rw [decide_eq_true (show V.str word = V.str "release" by rw [e2])]
        refine iteT ⟨_, rfl, rfl, _, rfl, ?_⟩
        rw [hold_non h42]
        cases hd with
        | none => exact iteT (r H2 (Same.refl H2))
        | some x =>
          obtain ⟨g, w⟩ := x
          obtain ⟨t, rfl, ht, _⟩ := (show ∃ q, hv = .ref q ∧ SqT K H2 q [.int g, .str w] ∧ PyData.strOk w = true from h42)
          refine iteF ⟨_, rfl, t, _, _, _, rfl, rfl, ht, atI_nat (j := 0) rfl, _, rfl, rfl, _, rfl, ?_⟩
          by_cases e : g = h
          · subst e
            rw [decide_eq_false (show ¬ wayV (some (g, w)) g = V.non by rw [show wayV (some (g, w)) g = V.str w from if_pos rfl]; intro z; cases z)] at r
            rw [decide_eq_true rfl]
            exact r H2 (Same.refl H2)
          · rw [decide_eq_true (show wayV (some (g, w)) h = V.non from if_neg e)] at r
            rw [decide_eq_false (show ¬ V.int g = V.int h from fun z => e (by injection z))]
            exact r H2 (Same.refl H2)
      · have := q1 H3 (s2.trans s3)
        rw [if_pos (of_decide_eq_true hb2)] at this
        exact this
      · have := q1 H3 (s2.trans s3)
        rw [if_neg (of_decide_eq_false hb2)] at this
        refine ⟨_, rfl, rfl, _, rfl, ?_⟩
        rw [str_eqF (show ¬ word = "preempt" by rw [e2]; decide)]
        refine iteF (iteF ⟨_, rfl, rfl, _, rfl, ?_⟩)
        rw [str_eqF (show ¬ word = "preempt" by rw [e2]; decide)]
        exact iteF (iteF this)
    rw [if_neg e2] at q1
    refine ifSn (b := false) (fun R r => ?_) (fun z => nomatch z) (fun _ H3 s3 => ?_)
    · refine ⟨_, rfl, rfl, _, rfl, ?_⟩
      rw [str_eqF e2]
      exact iteF (r H2 (Same.refl H2))
    have s13 := s2.trans s3
    refine ⟨_, rfl, rfl, _, rfl, ?_⟩
    by_cases e3 : word = "preempt"
    · rw [if_pos e3] at q1
      obtain ⟨n, v, rfl⟩ := ok.pre e3
      have q3 : Q (.str (preDue ks h v)) H3 := q1 H3 s13
      rw [decide_eq_true (show V.str word = V.str "preempt" by rw [e3])]
      unfold preDue at q3
      refine iteT ⟨_, rfl, c, _, _, _, rfl, rfl, sqT_tk hc (t2.trans (TK.of s3)), atI_nat (j := 2) rfl, _, rfl, rfl, _, rfl, ?_⟩
      by_cases ev : v = h
      · rw [if_pos ev] at q3
        rw [decide_eq_true (show V.int v = V.int h by rw [ev])]
        exact iteT q3
      · rw [if_neg ev] at q3
        rw [decide_eq_false (show ¬ V.int v = V.int h from fun z => ev (by injection z))]
        have g := DGet.k (k := Sum.inl v) (s13 _ _ (s1 _ _ h1))
        refine iteF ⟨_, rfl, rfl, _, rfl, ?_⟩
        rw [decide_eq_true (show V.str word = V.str "preempt" by rw [e3])]
        refine iteT ⟨_, rfl, c, _, _, _, rfl, rfl, sqT_tk hc (t2.trans (TK.of s3)), atI_nat (j := 2) rfl, _, rfl, d, _, rfl, g, _, rfl, ?_⟩
        rw [val_look, look_some]
        cases hl : look ks v with
        | none => rw [hl] at q3; exact iteT q3
        | some x =>
          rw [if_neg (by rw [hl]; exact fun z => nomatch z)] at q3
          exact iteF q3
    · rw [if_neg e3] at q1
      rw [str_eqF e3]
      refine iteF (iteF ⟨_, rfl, rfl, _, rfl, ?_⟩)
      rw [str_eqF e3]
      exact iteF (iteF (q1 H3 s13))
theorem scLFenced : FnScope ["space", "host", "key", "command", "keys", "name", "other"] ["space", "host", "key", "command"] (defScope sLFenced) := ⟨rfl, rfl, rfl, by decide +kernel, rfl, by decide +kernel, by decide +kernel⟩
theorem ok_lfenced (F : Fun K "_law_fenced" "_law_fenced" sLFenced f fd) (B : LB mg) (GH : Def P wrl K mg base CX0 "_law_hold" 1 ["space", "host", "command"] (spLHold K) fH fdH) : FnOk P wrl K mg base CX0 2 f fd ["space", "host", "key", "command"] (spLFenced K) := by
  refine F.ok scLFenced (fun vs H Q E h => ?_) (fun cdv A outer s H vs Q E hr h => ?_)
  · obtain ⟨sw, h, key, c, word, rest, rfl, _⟩ := h
    rfl
  · obtain ⟨sw, h, key, c, word, rest, rfl, SW, hc, ok, q⟩ := h
    obtain ⟨hv, hls, h4, hcc, h1⟩ := id SW
    have hnm := ok.nm
    have hr1 : Room 1 _ := hr
    refine ⟨_, (pss_cons (ps_set (i := 4) scLFenced.nd rfl (Or.inl rfl) (pe_ix ix_list (pv 0) pe_int (fun _ _ => rfl)))
      (pss_cons (ps_set (i := 5) scLFenced.nd rfl (Or.inl rfl) (pe_ix ix_tup (pv 3) pe_int (fun _ _ => rfl)))
      (pss_cons (ps_if (PW.pt (pw_and (pt_cmpR op_isN (pv 2) pe_non (nomark _)) (pw_and1 (pt_cmpR op_eq (pv 5) pe_str (nomark _)))))
      (pss_one (ps_ret pe_str)) pss_nil)
      (pss_cons (ps_if (pt_cmpR op_ne (pv 2) (pe_dget1 (hu_of hr) (pv 4) (pv 1) ⟨rfl, rfl, rfl, rfl⟩) (nomark _))
      (pss_one (ps_ret pe_str)) pss_nil)
      (pss_cons (ps_if (PW.pt (pw_and (pt_cmpR op_isN (pv 2) pe_non (nomark _)) (pw_and (pt_cmpR (op_neE hr.units0) (pv 4) pe_dnewK (nomark _)) (pw_and (pt_cmpR op_ne (pv 5) pe_str (nomark _)) (pw_and1 (pt_cmpR op_ne (pv 5) pe_str (nomark _)))))))
      (pss_one (ps_ret pe_str)) pss_nil)
      (pss_cons (ps_set (i := 6) scLFenced.nd rfl (Or.inl rfl) (pe_and (pe_cmpR op_notN (pe_ix ix_list (pv 0) pe_int (fun _ _ => rfl)) pe_non (nomark _)) (pe_one (pe_cmpR op_ne (pe_ix ix_tup (pe_ix ix_list (pv 0) pe_int (fun _ _ => rfl)) pe_int (fun _ _ => rfl)) (pv 1) (nomark _)))))
      (pss_cons (ps_if (pt_cmpR op_in_seq (pv 5) (pe_tup (pa_cons pe_str (pa_cons pe_str (pa_cons pe_str (pa_cons pe_str (pa_cons pe_str pa_nil)))))) (by rfl))
      (pss_one (ps_ret (pe_ix ix_list (pe_lst (pa_cons pe_str (pa_cons pe_str pa_nil))) (pe_callTy call_int1 (by rfl) B.int (by decide +kernel) (pa_cons (pv 6) pa_nil)) (fun _ _ => rfl)))) pss_nil)
      (pss_cons (ps_if (PW.pt (pw_or (pt_cmpR op_eq (pv 5) pe_str (nomark _)) (pw_or1 (pt_cmpR op_eq (pv 5) pe_str (nomark _)))))
      (pss_one (ps_ret (pe_ix ix_list (pe_lst (pa_cons pe_str (pa_cons pe_str pa_nil))) (pe_callTy call_int1 (by rfl) B.int (by decide +kernel) (pa_cons (pe_and (pv 6) (pe_one (pe_cmpR op_eq (pe_ix ix_tup (pe_ix ix_list (pv 0) pe_int (fun _ _ => rfl)) pe_int (fun _ _ => rfl)) pe_str (nomark _)))) pa_nil)) (fun _ _ => rfl)))) pss_nil)
      (pss_cons (ps_if (pt_cmpR op_eq (pv 5) pe_str (nomark _))
      (pss_one (ps_ret pe_str)) pss_nil)
      (pss_one (ps_ret (pe_call GH.ok hr1 (by rfl) GH.mg GH.kp GH.bd .nil pass0 (pa_cons (pv 0) (pa_cons (pv 1) (pa_cons (pv 3) pa_nil))))))))))))))), ?_⟩
    refine stSet0 (v := .ref sw.ka) (fun R r => ⟨_, rfl, sw.ls, _, _, _, rfl, rfl, SqL.of hls, atI_nat (j := 2) rfl, r⟩) ?_
    refine stSet0 (v := .str word) (fun R r => ⟨_, rfl, c, _, _, _, rfl, rfl, hc, atI_nat (j := 0) rfl, r⟩) ?_
    generalize hks : sw.ks = ks at *
    generalize hhd : sw.hd = hd at *
    -- a register without a key
    refine ifSn (b := key.isNone && decide (word = "register")) (fun R r => ?_) (fun hb H1 s1 => ?_) (fun hb H1 s1 => ?_)
    · refine ⟨_, rfl, rfl, _, rfl, ?_⟩
      rw [opt_non]
      cases hk : key.isNone with
      | false => rw [hk] at r; exact iteF (r H (Same.refl H))
      | true =>
        rw [hk] at r
        refine iteT ⟨_, rfl, rfl, _, rfl, ?_⟩
        rw [sev_eq]
        exact r H (Same.refl H)
    · have := q H1 s1
      rw [Bool.and_eq_true] at hb
      cases key with
      | some k => cases hb.1
      | none =>
        obtain rfl := of_decide_eq_true hb.2
        have e : due ks hd h none "register" rest = "" := by
          unfold due
          rw [show keyBad ks h none "register" = false by simp [keyBad], show keepsOut hd h "register" = false by cases hd with | none => rfl | some x => obtain ⟨g, w⟩ := x; show (if g = h then false else strIn "register" changingL || (strIn "register" readingL && decide (w = "alone"))) = false; rw [show strIn "register" changingL = false by decide +kernel, show strIn "register" readingL = false by decide +kernel]; split <;> rfl]
          rw [if_neg (by decide), show strIn "register" registeredL = false by decide +kernel]
          rfl
        rw [e] at this
        exact this
    have reg0 : word = "register" → key ≠ none := by
      intro e z
      rw [z, decide_eq_true e] at hb; cases hb
    -- a key that is not the present one
    refine ifSn (b := !decide (look ks h = key)) (fun R r => ?_) (fun hb2 H3 s3 => ?_) (fun hb2 H3 s3 => ?_)
    · have g := DGet.k (k := Sum.inl h) (s1 _ _ h1)
      refine ⟨_, rfl, _, rfl, sw.ka, rfl, .inl ⟨_, .inl (s1 _ _ h1)⟩, _, rfl, _, g, ?_⟩
      rw [val_opt]
      refine ⟨opt_scal key (look ks h), _, rfl, ?_⟩
      rw [opt_eq, show decide (key = look ks h) = decide (look ks h = key) by simp [eq_comm]]
      exact r H1 (Same.refl H1)
    · have := q H3 (s1.trans s3)
      have e : keyBad ks h key word = true := by
        cases key with
        | some k => exact hb2
        | none =>
          show (if word = "register" then false else _) = true
          rw [if_neg (fun e => reg0 e rfl)]
          cases hl : look ks h with
          | some v => rfl
          | none => rw [hl] at hb2; cases hb2
      unfold due at this
      rw [e] at this
      exact this
    -- no key, and others are registered
    refine ifSn (b := key.isNone && (!ks.isEmpty && !strIn word readingL)) (fun R r => ?_) (fun hb4 H4 s4 => ?_) (fun hb4 H4 s4 => ?_)
    · refine ⟨_, rfl, rfl, _, rfl, ?_⟩
      rw [opt_non]
      cases hk : key.isNone with
      | false => rw [hk] at r; exact iteF (r H3 (Same.refl H3))
      | true =>
        rw [hk] at r
        have h13 := (s1.trans s3) _ _ h1
        refine iteT ⟨_, rfl, fun e he => ?_⟩
        have s4 := same_new (o := .dK []) he
        refine ⟨sw.ka, e, kvsOf ks, rfl, rfl, s4 _ _ h13, upd_same, _, rfl, ?_⟩
        have e0 : (kvsOf ks).isEmpty = ks.isEmpty := by cases ks <;> rfl
        rw [e0]
        cases hem : ks.isEmpty with
        | true => rw [hem] at r; exact iteF (r _ s4)
        | false =>
          rw [hem, strIn2] at r
          refine iteT ⟨_, rfl, rfl, _, rfl, ?_⟩
          rw [sev_eq]
          cases d1 : decide (word = "read") with
          | true => rw [d1] at r; exact iteF (r _ s4)
          | false =>
            rw [d1] at r
            refine iteT ⟨_, rfl, rfl, _, rfl, ?_⟩
            rw [sev_eq]
            exact r _ s4
    · have := q H4 ((s1.trans s3).trans s4)
      rw [Bool.and_eq_true] at hb4
      cases key with
      | some k => cases hb4.1
      | none =>
        have hr0 : ¬ word = "register" := fun e => reg0 e rfl
        have e : keyBad ks h none word = true := by
          show (if word = "register" then false else _) = true
          rw [if_neg hr0, hb4.2, Bool.or_true]
        unfold due at this
        rw [e] at this
        exact this
    have s14 := (s1.trans s3).trans s4
    have hk0 : look ks h = key := of_decide_eq_true (by simpa using hb2)
    have kb : keyBad ks h key word = false := by
      cases key with
      | some k =>
        show (!decide (look ks h = some k)) = false
        exact hb2
      | none =>
        show (if word = "register" then false else _) = false
        rw [if_neg (fun e => reg0 e rfl)]
        have b4 : (!ks.isEmpty && !strIn word readingL) = false := hb4
        rw [hk0, b4]; rfl
    have q1 : ∀ H', Same H4 H' → Q (.str (due ks hd h key word rest)) H' := fun H' s' => q H' (s14.trans s')
    unfold due at q1
    rw [kb, Bool.false_or] at q1
    clear q hb hb2 hb4
    -- other
    have hl4 := s14 _ _ hls
    refine stSet (v := .bl (otherB hd h)) (fun R r => ?_) fun H5 s5 => ?_
    · refine ⟨_, rfl, sw.ls, _, _, _, rfl, rfl, SqL.of hl4, atI_nat (j := 3) rfl, rfl, _, rfl, ?_⟩
      have h44 := h4.tk (TK.of s14)
      rw [hold_non h44]
      cases hd with
      | none => exact iteF (r H4 (Same.refl H4))
      | some x =>
        obtain ⟨g, w⟩ := x
        obtain ⟨t, rfl, ht, _⟩ := (show ∃ q, hv = .ref q ∧ SqT K H4 q [.int g, .str w] ∧ PyData.strOk w = true from h44)
        refine iteT ⟨_, rfl, sw.ls, _, _, _, rfl, rfl, SqL.of hl4, atI_nat (j := 3) rfl, t, _, _, _, rfl, rfl, ht, atI_nat (j := 0) rfl, _, rfl, rfl, ?_⟩
        have e : decide (V.int g = V.int h) = decide (g = h) := by
          by_cases z : g = h
          · rw [decide_eq_true z, decide_eq_true (show V.int g = V.int h by rw [z])]
          · rw [decide_eq_false z, decide_eq_false (show ¬ V.int g = V.int h from fun y => z (by injection y))]
        rw [e]
        exact r H4 (Same.refl H4)
    have s15 := s14.trans s5
    have q2 : ∀ H', Same H5 H' → Q _ H' := fun H' s' => q1 H' (s5.trans s')
    rw [keeps_eq] at q2
    have pick : ∀ (b : Bool), atI [V.str "", V.str "conflict"] (if b = true then 1 else 0) = some (V.str (if b = true then "conflict" else "")) := fun b => by
      cases b <;> rfl
    -- what changes
    refine ifSn (b := strIn word changingL) (fun R r => ?_) (fun hb H6 s6 => ?_) (fun hb H6 s6 => ?_)
    · refine ⟨_, rfl, by show 5 ≤ sizeLine; decide, fun t ht => ⟨t, _, rfl, .inr (SqT.of upd_same), rfl, rfl, _, rfl, ?_⟩⟩
      have e1 : inV (.str word) (changingL.map V.str) = strIn word changingL := inV_str
      exact e1.symm ▸ r _ (same_new ht)
    · rw [hb, strIn_reg (.inl hb), Bool.true_or, Bool.and_true] at q2
      refine ⟨by show 2 ≤ sizeLine; decide, fun l hl => ?_⟩
      have s7 := same_new (o := .lst [V.str "", V.str "conflict"]) hl
      refine ⟨_, rfl, .inr ⟨_, rfl, l, _, _, _, rfl, rfl, SqL.of upd_same, pick (otherB hd h), ?_⟩⟩
      have q3 := q2 _ (s6.trans s7)
      cases ho : otherB hd h with
      | true => rw [ho] at q3; exact q3
      | false => rw [ho] at q3; exact q3
    rw [hb, Bool.false_or] at q2
    -- what reads
    refine ifSn (b := strIn word readingL) (fun R r => ?_) (fun hb2 H7 s7 => ?_) (fun hb2 H7 s7 => ?_)
    · rw [strIn2] at r
      refine ⟨_, rfl, rfl, _, rfl, ?_⟩
      rw [sev_eq]
      cases d1 : decide (word = "read") with
      | true => rw [d1] at r; exact iteT (r H6 (Same.refl H6))
      | false =>
        rw [d1] at r
        refine iteF ⟨_, rfl, rfl, _, rfl, ?_⟩
        rw [sev_eq]
        exact r H6 (Same.refl H6)
    · rw [hb2, strIn_reg (.inr (.inl hb2)), Bool.true_and] at q2
      refine ⟨by show 2 ≤ sizeLine; decide, fun l hl => ?_⟩
      have s8 := same_new (o := .lst [V.str "", V.str "conflict"]) hl
      have hl8 : (upd H7 l (.lst [V.str "", V.str "conflict"])) l = some (.lst [V.str "", V.str "conflict"]) := upd_same
      have q3 := q2 _ (s6.trans (s7.trans s8))
      generalize upd H7 l (.lst [V.str "", V.str "conflict"]) = H8 at s8 hl8 q3
      have s18 := ((s15.trans s6).trans s7).trans s8
      have h47 := h4.tk (TK.of s18)
      have hl47 := s18 _ _ hls
      refine ⟨_, rfl, _, rfl, ?_⟩
      cases ho : otherB hd h with
      | false =>
        rw [ho] at q3
        exact iteF (.inr ⟨_, rfl, l, _, _, _, rfl, rfl, SqL.of hl8, pick false, q3⟩)
      | true =>
        rw [ho] at q3
        cases hd with
        | none => cases ho
        | some x =>
          obtain ⟨g, w⟩ := x
          obtain ⟨t, rfl, ht, _⟩ := (show ∃ q, hv = .ref q ∧ SqT K H8 q [.int g, .str w] ∧ PyData.strOk w = true from h47)
          refine iteT ⟨_, rfl, sw.ls, _, _, _, rfl, rfl, SqL.of hl47, atI_nat (j := 3) rfl, t, _, _, _, rfl, rfl, ht, atI_nat (j := 1) rfl, rfl, .inr ⟨_, rfl, l, _, _, _, rfl, rfl, SqL.of hl8, pick _, ?_⟩⟩
          rw [sev_eq]
          rw [show aloneB (some (g, w)) = decide (w = "alone") from rfl] at q3
          cases d1 : decide (w = "alone") with
          | true => rw [d1] at q3; exact q3
          | false => rw [d1] at q3; exact q3
    rw [hb2, Bool.false_and, Bool.and_false] at q2
    -- register
    refine ifSn (b := decide (word = "register")) (fun R r => ?_) (fun hb3 H8 s8 => ?_) (fun hb3 H8 s8 => ?_)
    · refine ⟨_, rfl, rfl, _, rfl, ?_⟩
      rw [sev_eq]
      exact r H7 (Same.refl H7)
    · rw [strIn_reg (.inr (.inr (of_decide_eq_true hb3)))] at q2
      exact q2 H8 ((s6.trans s7).trans s8)
    have q3 : ∀ H', Same H8 H' → Q _ H' := fun H' s' => q2 H' (((s6.trans s7).trans s8).trans s')
    have s18 := ((s15.trans s6).trans s7).trans s8
    have hreg : strIn word registeredL = true := by
      have : ∀ w ∈ namesL, strIn w changingL = false → strIn w readingL = false → decide (w = "register") = false → strIn w registeredL = true := by decide +kernel
      unfold strIn at hnm
      obtain ⟨y, hy, e⟩ := List.any_eq_true.mp hnm
      obtain rfl := of_decide_eq_true e
      exact this y hy hb hb2 hb3
    rw [hreg] at q3
    subst hks hhd
    exact ⟨_, rfl, _, rfl, _, rfl, sw, h, c, word, rest, rfl, SW.same s18, sqT_tk hc (TK.of s18), ok, q3⟩
end
end Sg.Fe

set_option Elab.async false
set_option linter.all false
set_option maxRecDepth 100000
set_option maxHeartbeats 4000000
namespace Sg.Fe
open PySem PySem.Spec PyProof.Rows L2
/-! ### the law's answers -/
theorem one_look : ∀ {l : List (Int × Sw)} {m : List (Int × Spc)} {n : Int}, Paired OneOf l m → (lookI l n = none ∧ lookI m n = none) ∨ ∃ sw s, lookI l n = some sw ∧ lookI m n = some s ∧ OneOf (n, sw) (n, s)
  | _, _, _, .nil => .inl ⟨rfl, rfl⟩
  | (a, x) :: l, (b, y) :: m, n, .cons r t => by
    obtain rfl : a = b := r.nm
    by_cases e : a = n
    · subst e
      exact .inr ⟨x, y, by simp [lookI], by simp [lookI], r⟩
    · have h1 : lookI ((a, x) :: l) n = lookI l n := by unfold lookI; rw [List.find?_cons_of_neg (by simpa using e)]
      have h2 : lookI ((a, y) :: m) n = lookI m n := by unfold lookI; rw [List.find?_cons_of_neg (by simpa using e)]
      rw [h1, h2]
      exact one_look t
theorem sn_look : ∀ {l : List ((Int × Int) × Addr × Cells)} {k : Int × Int}, lookI (l.map fun p => (p.1, p.2.2)) k = (lookI l k).map (·.2)
  | [], _ => rfl
  | (a, x) :: l, k => by
    by_cases e : a = k
    · subst e; simp [lookI]
    · have h1 : lookI ((a, x) :: l) k = lookI l k := by unfold lookI; rw [List.find?_cons_of_neg (by simpa using e)]
      have h2 : lookI (((a, x) :: l).map fun p => (p.1, p.2.2)) k = lookI (l.map fun p => (p.1, p.2.2)) k := by unfold lookI; rw [List.map_cons, List.find?_cons_of_neg (by simpa using e)]
      rw [h1, h2]; exact sn_look
section
variable {K : PySem.W.Frag} {H H' : Hp} {w c : Addr} {W : Wo} {n : Int} {cm : Cm} {σ : L2.St} {Q : VK} {j : Nat}
theorem WoAt.get (WA : WoAt K H w W) (n : Int) : DGet H W.S (.int n) ((lookI W.sp n).map fun s => V.ref s.ls) := by
  obtain ⟨kvs, hS, pr, nk⟩ := WA.tsp
  rcases pr_look (R := fun v (s : Sw) => v = .ref s.ls) eI_inj (k := n) pr with ⟨l0, hz⟩ | ⟨s', z, l0, hz, az⟩
  · rw [l0]; exact .inl ⟨_, .inl n, .inl hS, rfl, hz.symm⟩
  · rw [l0]; exact .inl ⟨_, .inl n, .inl hS, rfl, by rw [hz, az]; rfl⟩
theorem WoAt.getN (WA : WoAt K H w W) {t : Addr} {n m : Int} (ht : H t = Option.some (.tup [.int n, .int m])) : DGet H W.N (.ref t) ((lookI W.sn (n, m)).map fun s => V.ref s.1) := by
  obtain ⟨kvs, hS, pr, nk⟩ := WA.tsn
  rcases pr_look (R := fun v (s : Addr × Cells) => v = .ref s.1) eP_inj (k := (n, m)) pr with ⟨l0, hz⟩ | ⟨s', z, l0, hz, az⟩
  · rw [l0]; exact .inr ⟨_, eP (n, m), t, .inl hS, rfl, ht, hz.symm⟩
  · rw [l0]; exact .inr ⟨_, eP (n, m), t, .inl hS, rfl, ht, by rw [hz, az]; rfl⟩
theorem cm_one (hc : CmdAt K H c cm) (h : ¬ cmS cm = "flush") {j : Nat} (hj : σ[j]? = some (some (.ref c))) (q : Q (.int (nsC cm)) H) : tOp (rIxT K) (tVar j) (tC (.int 1)) σ H Q := by
  obtain ⟨xs, ex⟩ := cm_ns h
  exact ⟨_, hj, c, _, _, _, rfl, rfl, hc, atI_nat (j := 1) (by rw [ex]; rfl), q⟩
/-- world[0][command[1]] -/
theorem sp_te (WA : WoAt K H w W) (hc : CmdAt K H c cm) (h : ¬ cmS cm = "flush") {sw : Sw} (ls : lookI W.sp (nsC cm) = some sw) (h0 : σ[0]? = some (some (.ref w))) (hj : σ[j]? = some (some (.ref c))) (q : Q (.ref sw.ls) H) :
    tDGet (tOp (rIxL K) (tVar 0) (tC (.int 0))) (tOp (rIxT K) (tVar j) (tC (.int 1))) σ H Q := by
  refine ⟨_, h0, w, _, _, _, rfl, rfl, SqL.of WA.top, atI_nat (j := 0) rfl, cm_one hc h hj ⟨W.S, _, rfl, ?_, q⟩⟩
  have := WA.get (nsC cm)
  rw [ls] at this; exact this
theorem lock_asg {te : TE} {i : Nat} {D : Ends} (h : tLockE te σ H fun v H' => D.nx (σ.set i (some v)) H') : tLock (tAsg te (gName i)) D σ H := h
end
/-- [x for x in d if ..]: the keys that are left -/
theorem keepK_te {K : PySem.W.Frag} {κ : Type} [DecidableEq κ] (T : TKd K κ) {σ : L2.St} {H : Hp} {Q : VK} {td : TE} {jx : Nat} {d : Addr} {kvs : List (κ × V)} {tt : TT} (f : κ → Bool) (hjx : jx < σ.length)
    (ht : ∀ (H1 : Hp) (R : VK), (∀ b o, b ≠ d → H b = some o → H1 b = some o) → R (.ref d) H1 → td σ H1 R)
    (hd : H d = some (T.ho kvs)) (hl : kvs.length ≤ 1000)
    (he : ∀ x k H' (Q' : Bool → Hp → Prop), k ∈ kvs.map (·.1) → T.at' H' x k → TK H H' → Q' (f k) H' → tt ((σ.set jx none).set jx (some x)) H' Q')
    (q : ∀ D xs H', Same H H' → H' D = some (.lst xs) → Paired (fun x (kv : κ × V) => T.at' H' x kv.1) xs (kvs.filter fun p => f p.1) → Q (.ref D) H') :
    tLockE (tLc (iKeys td) (gName jx) tt (tVar jx) [jx]) σ H Q := by
  refine ⟨d, T.ho kvs, hd, T.mt _, fun od => ?_⟩
  have tk1 : TK H (upd H d (.frz od (T.ho kvs))) := tk_upd hd (T.nt kvs).1 (T.nt kvs).2
  have hd1 : (upd H d (.frz od (T.ho kvs))) d = some (.frz od (T.ho kvs)) := upd_same
  have lk := fun H' (s : Same (upd H d (.frz od (T.ho kvs))) H') => lock_same hd rfl s
  have ne : ∀ b o, b ≠ d → H b = some o → (upd H d (.frz od (T.ho kvs))) b = some o := fun b o n e => by rw [upd_ne n]; exact e
  generalize upd H d (.frz od (T.ho kvs)) = H1 at tk1 hd1 lk ne
  refine ht H1 _ ne ⟨d, od, rfl, T.walk (R := fun J G => ∀ D, G D = none → ∃ W : Nat → Nat → Hp → Prop, (∃ m, W 0 m (upd G D (.lst []))) ∧ ∀ i m H, W i m H →
      (J.stop i H ∧ H d = some (.frz od (T.ho kvs)) ∧ Q (.ref D) (upd H d (T.ho kvs))) ∨ (J.go i H ∧ ∃ Nx : Hp → Prop, (∀ H', Nx H' → ∃ m', m' < m ∧ W (i + 1) m' H') ∧ ∀ x H', J.yld i H x H' → gName jx x (wipe σ [jx]) H' fun σ2 H2 => wipe σ2 [jx] = wipe σ [jx] ∧ tt σ2 H2 fun b H3 =>
        if b = true then tVar jx σ2 H3 fun y H4 => ∃ acc, H4 D = some (.lst acc) ∧ acc.length < sizeLine ∧ Nx (upd H4 D (.lst (acc ++ [y]))) else Nx H3)) hd1 fun J w D hD => ?_⟩
  refine lc_it w (fun i H' => Same H1 H' ∧ ∃ xs, H' D = some (.lst xs) ∧ Paired (fun x (kv : κ × V) => T.at' H' x kv.1) xs ((kvs.take i).filter fun p => f p.1)) ⟨same_new hD, [], upd_same, .nil⟩ (fun i H' _ p => p.1 _ _ hd1) ?_ ?_
  · rintro i x H' H'' hi ⟨sm, xs, hDi, pr⟩ ⟨rfl, k, v, hki, hat⟩
    have g1 : ((wipe σ [jx]).set jx (some x))[jx]? = some (some x) := by
      rw [List.getElem?_set_self (by rw [wipe_length]; exact hjx)]
    refine ⟨?_, ?_⟩
    · show ((σ.set jx none).set jx (some x)).set jx none = σ.set jx none
      rw [List.set_set, List.set_set]
    · refine he x k H'' _ (List.mem_map.mpr ⟨_, List.mem_of_getElem? hki, rfl⟩) hat (tk1.trans (TK.of sm)) ?_
      have tks : (kvs.take (i + 1)).filter (fun p => f p.1) = (kvs.take i).filter (fun p => f p.1) ++ (if f k = true then [(k, v)] else []) := by
        rw [List.take_add_one, hki, List.filter_append]
        by_cases c : f k = true <;> simp [c]
      by_cases c : f k = true
      · refine chooseT' c ?_
        have pl := Paired.length pr
        have fl : ((kvs.take i).filter fun p => f p.1).length ≤ (kvs.take i).length := List.length_filter_le _ _
        have lt : (kvs.take i).length ≤ 1000 := by rw [List.length_take]; omega
        refine ⟨_, g1, xs, hDi, small1000 (by omega), fun b o e => ?_, xs ++ [x], upd_same, ?_⟩
        · have : b ≠ D := fun z => by rw [z, hD] at e; cases e
          rw [upd_ne this]; exact sm _ _ e
        · have t3 : TK H'' (upd H'' D (.lst (xs ++ [x]))) := tk_upd hDi (fun _ z => nomatch z) (fun _ _ z => nomatch z)
          rw [tks, if_pos c]
          generalize upd H'' D (.lst (xs ++ [x])) = H5 at t3
          exact pr_snoc (R := fun x (kv : κ × V) => T.at' H5 x kv.1) (T.tk t3 hat) (Paired.imp2 (fun (x : V) (kv : κ × V) (z : T.at' H'' x kv.1) => T.tk t3 z) pr)
      · refine chooseF' (by simpa using c) ⟨sm, xs, hDi, ?_⟩
        rw [tks, if_neg c, List.append_nil]; exact pr
  · rintro H' ⟨sm, xs, hDn, pr⟩
    have hdn := sm _ _ hd1
    have nDd : D ≠ d := fun z => by rw [z, hd1] at hD; cases hD
    refine ⟨hdn, q D xs _ (lk _ sm) (by rw [upd_ne nDd]; exact hDn) ?_⟩
    rw [List.take_length] at pr
    exact Paired.imp2 (fun (x : V) (kv : κ × V) (z : T.at' H' x kv.1) => T.tk (tk_unlock' hdn (T.nt kvs).1) z) pr
theorem tAnd_of {a b : TT} {σ : L2.St} {H : Hp} {Q : Bool → Hp → Prop} (c : Bool) (ha : ∀ R : Bool → Hp → Prop, R c H → a σ H R) (hb : c = true → b σ H Q) (hf : c = false → Q false H) : tAnd a b σ H Q := by
  refine ha _ ?_
  cases c with
  | true => exact chooseT rfl (hb rfl)
  | false => exact chooseF rfl (hf rfl)
theorem tOr_of {a b : TT} {σ : L2.St} {H : Hp} {Q : Bool → Hp → Prop} (c d : Bool) (ha : ∀ R : Bool → Hp → Prop, R c H → a σ H R) (hb : ∀ R : Bool → Hp → Prop, R d H → b σ H R) (q : Q (c || d) H) : tOr a b σ H Q := by
  refine ha _ ?_
  cases c with
  | true => exact chooseT rfl q
  | false => exact chooseF rfl (hb _ q)
theorem word_t {σ : L2.St} {H : Hp} {j : Nat} {x y : Str} (hj : σ[j]? = some (some (.str x))) (R : Bool → Hp → Prop) (r : R (decide (x = y)) H) : tTest (tOp rEq (tVar j) (tC (.str y))) σ H R :=
  ⟨_, hj, rfl, _, rfl, by rw [sev_eq]; exact r⟩
theorem cm_pl (cm : Cm) : (plC cm = none ∧ strIn (cmS cm) ["write", "trim", "read"] = false ∧ decide (cmS cm = "view") = false) ∨ (∃ p, plC cm = some p ∧ strIn (cmS cm) ["write", "trim", "read"] = true ∧ decide (cmS cm = "view") = false ∧ (V.str (cmS cm) :: cmI cm)[2]? = some (.int p)) ∨ ∃ p, plC cm = some p ∧ strIn (cmS cm) ["write", "trim", "read"] = false ∧ decide (cmS cm = "view") = true ∧ (V.str (cmS cm) :: cmI cm)[3]? = some (.int p) := by
  cases cm with
  | make n z => exact .inl ⟨rfl, (show strIn "make" ["write", "trim", "read"] = false by decide +kernel), (show decide (("make" : Str) = "view") = false by decide +kernel)⟩
  | remove n => exact .inl ⟨rfl, (show strIn "remove" ["write", "trim", "read"] = false by decide +kernel), (show decide (("remove" : Str) = "view") = false by decide +kernel)⟩
  | write n p v => exact .inr (.inl ⟨p, rfl, (show strIn "write" ["write", "trim", "read"] = true by decide +kernel), (show decide (("write" : Str) = "view") = false by decide +kernel), rfl⟩)
  | trim n p => exact .inr (.inl ⟨p, rfl, (show strIn "trim" ["write", "trim", "read"] = true by decide +kernel), (show decide (("trim" : Str) = "view") = false by decide +kernel), rfl⟩)
  | read n p => exact .inr (.inl ⟨p, rfl, (show strIn "read" ["write", "trim", "read"] = true by decide +kernel), (show decide (("read" : Str) = "view") = false by decide +kernel), rfl⟩)
  | snap n => exact .inl ⟨rfl, (show strIn "snap" ["write", "trim", "read"] = false by decide +kernel), (show decide (("snap" : Str) = "view") = false by decide +kernel)⟩
  | view n m p => exact .inr (.inr ⟨p, rfl, (show strIn "view" ["write", "trim", "read"] = false by decide +kernel), (show decide (("view" : Str) = "view") = true by decide +kernel), rfl⟩)
  | drop n m => exact .inl ⟨rfl, (show strIn "drop" ["write", "trim", "read"] = false by decide +kernel), (show decide (("drop" : Str) = "view") = false by decide +kernel)⟩
  | register n => exact .inl ⟨rfl, (show strIn "register" ["write", "trim", "read"] = false by decide +kernel), (show decide (("register" : Str) = "view") = false by decide +kernel)⟩
  | leave n => exact .inl ⟨rfl, (show strIn "leave" ["write", "trim", "read"] = false by decide +kernel), (show decide (("leave" : Str) = "view") = false by decide +kernel)⟩
  | reserve n w => exact .inl ⟨rfl, (show strIn "reserve" ["write", "trim", "read"] = false by decide +kernel), (show decide (("reserve" : Str) = "view") = false by decide +kernel)⟩
  | release n => exact .inl ⟨rfl, (show strIn "release" ["write", "trim", "read"] = false by decide +kernel), (show decide (("release" : Str) = "view") = false by decide +kernel)⟩
  | preempt n v => exact .inl ⟨rfl, (show strIn "preempt" ["write", "trim", "read"] = false by decide +kernel), (show decide (("preempt" : Str) = "view") = false by decide +kernel)⟩
  | flush  => exact .inl ⟨rfl, (show strIn "flush" ["write", "trim", "read"] = false by decide +kernel), (show decide (("flush" : Str) = "view") = false by decide +kernel)⟩
def pk : List Key → Int × Int
  | [.inl a, .inl b] => (a, b)
  | _ => (0, 0)
theorem keys_dp {K : PySem.W.Frag} {H : Hp} : ∀ {xs : List V} {L : List (List Key × V)}, Paired (fun x (kv : List Key × V) => (kdT K).at' H x kv.1) xs L → (∀ kv ∈ L, ∃ q, kv.1 = eP q) → DpAll K H xs ((L.map fun kv => pk kv.1).map rowD)
  | _, _, .nil, _ => .nil
  | _, (k, v) :: L, .cons r t, h => by
    obtain ⟨b, rfl, hb⟩ := r
    obtain ⟨q, e⟩ := h _ List.mem_cons_self
    have e : k = eP q := e
    subst e
    exact .cons (.tup (SqT.of hb) (.cons (.int _) (.cons (.int _) .nil))) (keys_dp t fun kv hk => h kv (List.mem_cons_of_mem _ hk))
theorem rows_sh {l : List (Int × Int)} : SeqAt.shaped (.list (l.map rowD)) = true := shaped_list (rows_lay l).1 (Nat.le_trans (rows_lay l).2 (by decide))
theorem rows_nil {l : List (Int × Int)} : PyData.eqv (.list (l.map rowD)) (.list []) = l.isEmpty := by
  cases l with
  | nil => simp [PyData.eqv, PyData.eqvAll]
  | cons => simp [PyData.eqv, PyData.eqvAll]
def spLRef (K : PySem.W.Frag) : Sp := fun vs H Q _ => ∃ w W n st h key c cm, vs = [.ref w, .int h, optI key, .ref c] ∧ WoAt K H w W ∧ WoOk n w W ∧ n ≤ 100 ∧ StOf W st ∧ CmdAt K H c cm ∧ okC cm ∧ ¬ cmS cm = "flush" ∧ ∀ H', Same H H' → Q (.str (refW st h key cm)) H'
section
variable {P : Program} {wd : World} {K : PySem.W.Frag} {mg : Str → Option Value} {base : Heap} {f fF fN : Addr} {fd fdF fdN : FuncData}
theorem scLRef : FnScope ["world", "host", "key", "command", "name", "space", "word", "held", "snap"] ["world", "host", "key", "command"] (defScope sLRef) := ⟨rfl, rfl, rfl, by decide +kernel, rfl, by decide +kernel, by decide +kernel⟩
theorem ok_lrefused (F : Fun K "_law_refused" "_law_refused" sLRef f fd) (B : LB mg) (GF : Def P wd K mg base CX0 "_law_fenced" 2 ["space", "host", "key", "command"] (spLFenced K) fF fdF) : FnOk P wd K mg base CX0 3 f fd ["world", "host", "key", "command"] (spLRef K) := by
  refine F.ok scLRef (fun vs H Q E h => ?_) (fun cdv A outer s H vs Q E hr h => ?_)
  · obtain ⟨w, W, n, st, h, key, c, cm, rfl, _⟩ := h
    rfl
  · obtain ⟨w, W, n, st, h, key, c, cm, rfl, WA, WK, hn, SO, hc, oc, nf, q⟩ := h
    have hr2 : Room 2 _ := hr
    refine ⟨_, (pss_cons (ps_set (i := 4) scLRef.nd rfl (Or.inl rfl) (pe_ix ix_tup (pv 3) pe_int (fun _ _ => rfl)))
      (pss_cons (ps_if (pt_cmpR op_eq (pv 4) pe_str (nomark _))
      (pss_one (ps_ret (pe_ix ix_list (pe_lst (pa_cons pe_str (pa_cons pe_str pa_nil))) (pe_callTy call_int1 (by rfl) B.int (by decide +kernel) (pa_cons (pe_cmp (pc_din (hu_of hr) (pe_ix ix_tup (pv 3) pe_int (fun _ _ => rfl)) (pe_ix ix_list (pv 0) pe_int (fun _ _ => rfl))) rfl) pa_nil)) (fun _ _ => rfl)))) pss_nil)
      (pss_cons (ps_if (pt_cmp (pc_dnotin (hu_of hr) (pe_ix ix_tup (pv 3) pe_int (fun _ _ => rfl)) (pe_ix ix_list (pv 0) pe_int (fun _ _ => rfl))))
      (pss_one (ps_ret pe_str)) pss_nil)
      (pss_cons (ps_set (i := 5) scLRef.nd rfl (Or.inl rfl) (pe_dget (hu_of hr) (pe_ix ix_list (pv 0) pe_int (fun _ _ => rfl)) (pe_ix ix_tup (pv 3) pe_int (fun _ _ => rfl)) (fun _ _ => rfl)))
      (pss_cons (ps_set (i := 6) scLRef.nd rfl (Or.inl rfl) (pe_call GF.ok hr2 (by rfl) GF.mg GF.kp GF.bd .nil pass0 (pa_cons (pv 5) (pa_cons (pv 1) (pa_cons (pv 2) (pa_cons (pv 3) pa_nil))))))
      (pss_cons (ps_if (pt_cmpR op_ne (pv 6) pe_str (nomark _))
      (pss_one (ps_ret (pv 6))) pss_nil)
      (Evl.pss_cut (ps_if (PW.pt (pw_and (PW.pt (pw_or (pt_cmpR op_eq (pv 4) pe_str (nomark _)) (pw_or1 (pt_cmpR op_eq (pv 4) pe_str (nomark _))))) (pw_and1 (pt_cmp (pc_dnotin (hu_of hr) (pe_tup (pa_cons (pe_ix ix_tup (pv 3) pe_int (fun _ _ => rfl)) (pa_cons (pe_ix ix_tup (pv 3) pe_int (fun _ _ => rfl)) pa_nil))) (pe_ix ix_list (pv 0) pe_int (fun _ _ => rfl)))))))
      (pss_one (ps_ret pe_str)) pss_nil)
      (Evl.pss_cut (ps_if (PW.pt (pw_or (PW.pt (pw_and (pt_cmpR op_in_seq (pv 4) (pe_tup (pa_cons pe_str (pa_cons pe_str (pa_cons pe_str pa_nil)))) (by rfl)) (pw_and1 (pt_cmpR op_ge (pe_ix ix_tup (pv 3) pe_int (fun _ _ => rfl)) (pe_ix ix_list (pv 5) pe_int (fun _ _ => rfl)) (nomark _))))) (pw_or1 (PW.pt (pw_and (pt_cmpR op_eq (pv 4) pe_str (nomark _)) (pw_and1 (pt_cmpR op_ge (pe_ix ix_tup (pv 3) pe_int (fun _ _ => rfl)) (pe_ix ix_list (pv 5) pe_int (fun _ _ => rfl)) (nomark _))))))))
      (pss_one (ps_ret pe_str)) pss_nil)
      (Evl.pss_cut (ps_lock (ps_setLc (i := 7) (own := [("snap", 8)]) (g := gName 8) (tt := tTest (tOp rEq (tOp (rIxT K) (tVar 8) (tC (.int 0))) (tOp (rIxT K) (tVar 3) (tC (.int 1))))) (te := tVar 8) (by rfl) scLRef.nd rfl rfl (sw_true rfl rfl rfl (by decide +kernel)) (pi_keys (pe_ix ix_list (pv 0) pe_int (fun _ _ => rfl))) (blkOk_by (own := [("snap", 8)]) (N := ["world", "host", "key", "command", "name", "space", "word", "held", "snap"]) (sc := defScope sLRef) (by decide +kernel)) (fun _ _ _ _ _ => pg_name (i := 8) scLRef.nd rfl (Or.inl rfl)) (fun _ _ _ _ _ => pts_one (by exact (pt_cmpR op_eq (pe_ix ix_tup (pv 8) pe_int (fun _ _ => rfl)) (pe_ix ix_tup (pv 3) pe_int (fun _ _ => rfl)) (nomark _)))) (fun _ _ _ _ _ => by exact (pv 8))))
      (pss_cons (ps_if (PW.pt (pw_and (pt_cmpR op_eq (pv 4) pe_str (nomark _)) (pw_and1 (pt_cmpR (op_neD hr.units) (pv 7) (pe_lst pa_nil) (nomark _)))))
      (pss_one (ps_ret pe_str)) pss_nil)
      (pss_one (ps_ret pe_str)))))))))))), ?_⟩
    refine ⟨_, rfl, c, _, _, _, rfl, rfl, hc, atI_nat (j := 0) rfl, _, rfl, rfl, _, rfl, ?_⟩
    have pick : ∀ (b : Bool), atI [V.str "", V.str "exists"] (if b = true then 1 else 0) = some (V.str (if b = true then "exists" else "")) := fun b => by
      cases b <;> rfl
    by_cases e0 : cmS cm = "make"
    · refine chooseT (decide_eq_true (by rw [e0])) ?_
      obtain ⟨n', z, rfl⟩ := cm_make e0
      refine ⟨by show 2 ≤ sizeLine; decide, fun l hl => ?_⟩
      have s1 := same_new (o := .lst [V.str "", V.str "exists"]) hl
      have hl1 : (upd H l (.lst [V.str "", V.str "exists"])) l = some (.lst [V.str "", V.str "exists"]) := upd_same
      generalize upd H l (.lst [V.str "", V.str "exists"]) = H1 at s1 hl1
      have WA1 := WA.same s1
      have hc1 : CmdAt K H1 c (.make n' z) := SqT_same s1 hc
      refine cm_one hc1 nf rfl ⟨_, rfl, w, _, _, _, rfl, rfl, SqL.of WA1.top, atI_nat (j := 0) rfl, W.S, _, rfl, WA1.get n', .inr ⟨_, rfl, l, _, _, _, rfl, rfl, SqL.of hl1, pick _, ?_⟩⟩
      have := q H1 s1
      rw [show refW st h key (.make n' z) = (if (lookI st.sp n').isSome = true then ("exists" : Str) else ("" : Str)) from rfl] at this
      rcases one_look (n := n') SO.sp with ⟨l1, l2⟩ | ⟨sw, sp, l1, l2, _⟩
      · rw [l2] at this; rw [l1]; exact this
      · rw [l2] at this; rw [l1]; exact this
    refine chooseF (str_eqF e0) ?_
    rw [cm_in nf e0] at q
    refine cm_one hc nf rfl ⟨_, rfl, w, _, _, _, rfl, rfl, SqL.of WA.top, atI_nat (j := 0) rfl, W.S, _, rfl, WA.get _, _, rfl, ?_⟩
    rcases one_look (n := nsC cm) SO.sp with ⟨l1, l2⟩ | ⟨sw, sp, l1, l2, OO⟩
    · rw [l1]
      refine chooseT rfl ?_
      have := q H (Same.refl _)
      unfold inW at this
      rw [l2] at this; exact this
    rw [l1]
    refine chooseF rfl ?_
    have hm := Sg.look_mem l1
    have SW := WA.ins _ hm
    have kn := WK.kn _ hm
    refine sp_te WA hc nf l1 rfl rfl ?_
    have ei : inW st h key cm = if due sw.ks sw.hd h key (cmS cm) (cmI cm) = "" then tailW st sp cm else due sw.ks sw.hd h key (cmS cm) (cmI cm) := by
      unfold inW
      rw [l2]
      have e1 : due sp.rg sp.hd h key (cmS cm) (cmI cm) = due sw.ks sw.hd h key (cmS cm) (cmI cm) := by
        rw [OO.hd]
        exact due_congr (fun x => OO.rg.look kn x) OO.rg.emp _ _ _ _ _
      show (if due sp.rg sp.hd h key (cmS cm) (cmI cm) = "" then tailW st sp cm else due sp.rg sp.hd h key (cmS cm) (cmI cm)) = _
      rw [e1]
    refine ⟨_, rfl, _, rfl, _, rfl, _, rfl, sw, h, key, c, cmS cm, cmI cm, rfl, SW, hc, cm_ok nf e0 oc, fun H1 s1 => ?_⟩
    have q1 : ∀ H', Same H1 H' → Q (.str (inW st h key cm)) H' := fun H' s' => q H' (s1.trans s')
    rw [ei] at q1
    generalize due sw.ks sw.hd h key (cmS cm) (cmI cm) = wd at q1
    refine ⟨_, rfl, rfl, _, rfl, ?_⟩
    by_cases ew : ¬ wd = ""
    · rw [if_neg ew] at q1
      exact chooseT (by rw [str_eqF ew]; rfl) ⟨_, rfl, q1 H1 (Same.refl _)⟩
    obtain rfl : wd = "" := Classical.not_not.mp ew
    rw [if_pos rfl] at q1
    refine chooseF (by rw [str_eqT]; rfl) ?_
    have WA1 := WA.same s1
    have hls1 : ∃ hv, H1 sw.ls = some (.lst [.int sw.z, .ref sw.ca, .ref sw.ka, hv]) := by
      obtain ⟨hv, a, _⟩ := WA1.ins _ hm
      exact ⟨hv, a⟩
    have hc1 : CmdAt K H1 c cm := SqT_same s1 hc
    have et : tailW st sp cm = (if lostC st cm = true then ("none" : Str) else if farC sp cm = true then ("place" : Str) else if heldC st cm = true then ("held" : Str) else ("" : Str)) := rfl
    rw [et] at q1
    clear ew et ei q
    refine ⟨fun σ' G => σ' = [some (.ref w), some (.int h), some (optI key), some (.ref c), some (.str (cmS cm)), some (.ref sw.ls), some (.str ""), none, none] ∧ Same H1 G ∧ lostC st cm = false, ?_, ?_⟩
    · refine tAnd_of (c := decide (cmS cm = "view") || decide (cmS cm = "drop")) (fun R r => tOr_of _ _ (fun R r => word_t rfl R r) (fun R r => word_t rfl R r) r) (fun ec => ?_) (fun ec => ?_)
      · rcases cm_sm cm with ⟨m0, mi⟩ | ⟨m, m0, mi, mc⟩
        · rw [strIn2, ec] at mi; cases mi
        obtain ⟨xs, ex⟩ := cm_ns nf
        refine cm_one hc1 nf rfl ⟨_, rfl, c, _, _, _, rfl, rfl, hc1, atI_nat (j := 2) mc, by show 2 ≤ sizeLine; decide, fun t2 ht2 => ?_⟩
        have u2 := same_new (o := .tup [V.int (nsC cm), V.int m]) ht2
        have e2' : (upd H1 t2 (.tup [V.int (nsC cm), V.int m])) t2 = some (.tup [V.int (nsC cm), V.int m]) := upd_same
        generalize upd H1 t2 (.tup [V.int (nsC cm), V.int m]) = H2 at u2 e2'
        have WA2 := WA1.same u2
        refine ⟨_, rfl, w, _, _, _, rfl, rfl, SqL.of WA2.top, atI_nat (j := 1) rfl, W.N, _, rfl, WA2.getN e2', _, rfl, ?_⟩
        have el : lostC st cm = (lookI W.sn (nsC cm, m)).isNone := by
          unfold lostC
          rw [m0]
          show (lookI st.sn (nsC cm, m)).isNone = _
          rw [SO.sn, sn_look]
          cases lookI W.sn (nsC cm, m) <;> rfl
        cases hl : lookI W.sn (nsC cm, m) with
        | none =>
          rw [hl] at el
          rw [if_pos (by rw [el]; rfl)] at q1
          exact chooseT rfl (q1 H2 u2)
        | some x =>
          rw [hl] at el
          exact chooseF rfl ⟨rfl, u2, el⟩
      · rcases cm_sm cm with ⟨m0, mi⟩ | ⟨m, m0, mi, mc⟩
        · exact chooseF rfl ⟨rfl, Same.refl _, by unfold lostC; rw [m0]⟩
        · rw [strIn2, ec] at mi; cases mi
    rintro σ' G1 ⟨rfl, s2, el⟩
    rw [if_neg (by rw [el]; exact Bool.false_ne_true)] at q1
    have WA2 := WA1.same s2
    have hc2 : CmdAt K G1 c cm := SqT_same s2 hc1
    refine ⟨fun σ' G => σ' = [some (.ref w), some (.int h), some (optI key), some (.ref c), some (.str (cmS cm)), some (.ref sw.ls), some (.str ""), none, none] ∧ Same G1 G ∧ farC sp cm = false, ?_, ?_⟩
    · have inT : ∀ R : Bool → Hp → Prop, (∀ G, Same G1 G → R (strIn (cmS cm) ["write", "trim", "read"]) G) → tTest (tOp (rIn K false) (tVar 4) (tTup (tCons (tC (.str "write")) (tCons (tC (.str "trim")) (tCons (tC (.str "read")) tNil))))) [some (.ref w), some (.int h), some (optI key), some (.ref c), some (.str (cmS cm)), some (.ref sw.ls), some (.str ""), none, none] G1 R := fun R r => by
        refine ⟨_, rfl, by show 3 ≤ sizeLine; decide, fun t ht => ⟨t, _, rfl, .inr (SqT.of upd_same), rfl, rfl, _, rfl, ?_⟩⟩
        have e1 : inV (.str (cmS cm)) ((["write", "trim", "read"] : List Str).map V.str) = strIn (cmS cm) ["write", "trim", "read"] := inV_str
        exact e1.symm ▸ r _ (same_new ht)
      have ge : ∀ (R : Bool → Hp → Prop) (G : Hp) (j : Nat) (p : Int), Same G1 G → (V.str (cmS cm) :: cmI cm)[j]? = some (.int p) → R (decide (sw.z ≤ p)) G → tTest (tOp (rI0 fun i j => V.bl (decide (j ≤ i))) (tOp (rIxT K) (tVar 3) (tC (.int (j : Int)))) (tOp (rIxL K) (tVar 5) (tC (.int 0)))) [some (.ref w), some (.int h), some (optI key), some (.ref c), some (.str (cmS cm)), some (.ref sw.ls), some (.str ""), none, none] G R := fun R G j p sG hj r => by
        obtain ⟨hv, hls⟩ := hls1
        exact ⟨_, rfl, c, _, _, _, rfl, rfl, SqT_same sG hc2, atI_nat hj, _, rfl, sw.ls, _, _, _, rfl, rfl, SqL.of (sG _ _ (s2 _ _ hls)), atI_nat (j := 0) rfl, _, _, rfl, rfl, _, rfl, r⟩
      have fe : ∀ p, plC cm = some p → farC sp cm = decide (sw.z ≤ p) := fun p hp => by
        unfold farC
        rw [hp, ← OO.z]
      refine inT _ fun G s3 => ?_
      rcases cm_pl cm with ⟨p0, b1, b2⟩ | ⟨p, p0, b1, b2, hj⟩ | ⟨p, p0, b1, b2, hj⟩
      · rw [b1]
        refine chooseF rfl (chooseF rfl (tAnd_of _ (fun R r => word_t rfl R r) (fun e => by rw [b2] at e; cases e) (fun _ => chooseF rfl ⟨rfl, s3, by unfold farC; rw [p0]⟩)))
      · rw [b1]
        refine chooseT rfl (ge _ G 2 p s3 hj ?_)
        cases hd : decide (sw.z ≤ p) with
        | true =>
          rw [if_pos (by rw [fe p p0, hd])] at q1
          exact chooseT rfl (chooseT rfl (q1 G (s2.trans s3)))
        | false => exact chooseF rfl (tAnd_of _ (fun R r => word_t rfl R r) (fun e => by rw [b2] at e; cases e) (fun _ => chooseF rfl ⟨rfl, s3, by rw [fe p p0, hd]⟩))
      · rw [b1]
        refine chooseF rfl (chooseF rfl (tAnd_of _ (fun R r => word_t rfl R r) (fun _ => ge _ G 3 p s3 hj ?_) (fun e => by rw [b2] at e; cases e)))
        cases hd : decide (sw.z ≤ p) with
        | true =>
          rw [if_pos (by rw [fe p p0, hd])] at q1
          exact chooseT rfl (q1 G (s2.trans s3))
        | false => exact chooseF rfl ⟨rfl, s3, by rw [fe p p0, hd]⟩
    rintro σ' G2 ⟨rfl, s3, ef⟩
    rw [if_neg (by rw [ef]; exact Bool.false_ne_true)] at q1
    have WA3 := WA2.same s3
    have hc3 : CmdAt K G2 c cm := SqT_same s3 hc2
    refine ⟨fun σ' G => ∃ (D : Addr) (ts : List (Int × Int)), σ' = [some (.ref w), some (.int h), some (optI key), some (.ref c), some (.str (cmS cm)), some (.ref sw.ls), some (.str ""), some (.ref D), none] ∧ Same G2 G ∧ Dp K G (.ref D) (.list (ts.map rowD)) ∧ ts.isEmpty = !(W.sn.any fun q => decide (q.1.1 = nsC cm)), ?_, ?_⟩
    · obtain ⟨kvs2, hN, pr2, nk2⟩ := id WA3.tsn
      refine lock_asg (keepK_te (kdT K) (d := W.N) (kvs := kvs2) (fun k => decide (k.head? = some (.inl (nsC cm)))) (show 8 < 9 by decide) (fun H1 R e r => ?_) hN (by rw [Paired.length pr2]; exact Nat.le_trans WK.sns (by omega)) (fun x kk H' Q' hkk hat tk k' => ?_) fun D2 xs H' s7 hD2 pr => ?_)
      · exact ⟨_, rfl, w, _, _, _, rfl, rfl, SqL.of (e _ _ (fun z => by rw [← z] at hN; rw [WA3.top] at hN; cases hN) WA3.top), atI_nat (j := 1) rfl, r⟩
      · obtain ⟨b, rfl, hb⟩ := hat
        obtain ⟨qq, hq, rfl⟩ : ∃ q : (Int × Int) × Addr × Cells, q ∈ W.sn ∧ kk = eP q.1 := by
          rw [pr_keys (R := fun v (s : Addr × Cells) => v = .ref s.1) pr2] at hkk
          obtain ⟨q, h1, h2⟩ := List.mem_map.mp hkk
          exact ⟨q, h1, h2.symm⟩
        obtain ⟨xs, ex⟩ := cm_ns nf
        refine ⟨_, rfl, b, _, _, _, rfl, rfl, SqT.of hb, atI_nat (j := 0) rfl, _, rfl, c, _, _, _, rfl, rfl, sqT_tk hc3 tk, atI_nat (j := 1) (by rw [ex]; rfl), rfl, _, rfl, ?_⟩
        have e : decide (V.int qq.1.1 = V.int (nsC cm)) = decide ((eP qq.1).head? = some (.inl (nsC cm))) := by
          by_cases z : qq.1.1 = nsC cm
          · simp [z, eP]
          · simp [z, eP]
        exact e ▸ k'
      · have kk := pr_keys (R := fun v (s : Addr × Cells) => v = .ref s.1) pr2
        refine ⟨D2, _, rfl, s7, .lst (SqL.of hD2) (keys_dp pr fun kv hkv => ?_), ?_⟩
        · have : kv.1 ∈ kvs2.map (·.1) := List.mem_map.mpr ⟨_, (List.mem_filter.mp hkv).1, rfl⟩
          rw [kk] at this
          obtain ⟨q, _, h2⟩ := List.mem_map.mp this
          exact ⟨_, h2.symm⟩
        · have e1 : (W.sn.any fun q => decide (q.1.1 = nsC cm)) = kvs2.any fun kv => decide (kv.1.head? = some (.inl (nsC cm))) := by
            have a1 : (kvs2.any fun kv => decide (kv.1.head? = some (.inl (nsC cm)))) = (kvs2.map (·.1)).any fun k => decide (k.head? = some (.inl (nsC cm))) := by rw [List.any_map]; rfl
            rw [a1, kk, List.any_map]
            refine congrArg (List.any W.sn) (funext fun q => ?_)
            show decide (q.1.1 = nsC cm) = decide ((eP q.1).head? = some (.inl (nsC cm)))
            by_cases z : q.1.1 = nsC cm
            · simp [z, eP]
            · simp [z, eP]
          rw [e1]
          have : ∀ l : List (List Key × V), ((l.filter fun p => decide (p.1.head? = some (.inl (nsC cm)))).map fun kv => pk kv.1).isEmpty = !(l.any fun kv => decide (kv.1.head? = some (.inl (nsC cm)))) := fun l => by
            induction l with
            | nil => rfl
            | cons y l ih =>
              by_cases c : y.1.head? = some (.inl (nsC cm))
              · rw [List.filter_cons_of_pos (by simpa using c), List.any_cons, decide_eq_true c]; rfl
              · rw [List.filter_cons_of_neg (by simpa using c), List.any_cons, decide_eq_false c, ih]; rfl
          exact this kvs2
    rintro σ' G3 ⟨D, ts, rfl, s4, dp, emp⟩
    have hh : heldC st cm = (decide (cmS cm = "remove") && !ts.isEmpty) := by
      rw [emp, Bool.not_not]
      rcases cm_rem cm with ⟨n', rfl⟩ | ⟨er, eh⟩
      · show (st.sn.any fun q => decide (q.1.1 = n')) = _
        rw [SO.sn, List.any_map, show decide (cmS (.remove n') = "remove") = true from decide_eq_true rfl, Bool.true_and]; rfl
      · rw [eh, decide_eq_false er]; rfl
    refine tAnd_of _ (fun R r => word_t rfl R r) (fun er => ?_) (fun er => ?_)
    · refine ⟨_, rfl, by show 0 ≤ sizeLine; decide, fun l hl => ?_⟩
      have s5 := same_new (o := .lst []) hl
      refine ⟨.list (ts.map rowD), .list [], dp_same s5 _ _ dp, .lst (SqL.of upd_same) .nil, rows_sh, rows_sh (l := []), _, rfl, ?_⟩
      rw [rows_nil]
      rw [hh, er, Bool.true_and] at q1
      have q2 := q1 _ ((s2.trans s3).trans (s4.trans s5))
      cases he : ts.isEmpty with
      | true => rw [he] at q2; exact chooseF rfl q2
      | false => rw [he] at q2; exact chooseT rfl q2
    · rw [hh, er, Bool.false_and] at q1
      exact chooseF rfl (q1 _ ((s2.trans s3).trans s4))
end
end Sg.Fe

set_option Elab.async false
set_option linter.all false
set_option maxRecDepth 100000
set_option maxHeartbeats 4000000
namespace Sg.Fe
open PySem PySem.Spec PyProof.Rows L2
/-! ### what the law asks of the world -/
theorem cell_look {K : PySem.W.Frag} {H : Hp} {c : Addr} {cs : Cells} (h : CellAt K H c cs) (p : Int) : DGet H c (.int p) ((lookI cs p).map V.int) := by
  obtain ⟨kvs, hc, pr, nd⟩ := h
  rcases pr_look (R := fun x v => x = V.int v) eI_inj (k := p) pr with ⟨l0, hz⟩ | ⟨v, z, l0, hz, az⟩
  · rw [l0]; exact .inl ⟨_, .inl p, .inl hc, rfl, hz.symm⟩
  · rw [l0]; exact .inl ⟨_, .inl p, .inl hc, rfl, by rw [hz, az]; rfl⟩
theorem oV_get {o : Option Int} : (o.map V.int).getD .non = oV o := by cases o <;> rfl
theorem optI_oV {o : Option Int} : optI o = oV o := by cases o <;> rfl
/-- the command's space is there -/
def Has (W : Wo) (cm : Cm) : Prop := ¬ cmS cm = "flush" → ¬ cmS cm = "make" → ∃ sw, lookI W.sp (nsC cm) = some sw
def spLIdle (K : PySem.W.Frag) : Sp := fun vs H Q _ => ∃ w W n st h c cm, vs = [.ref w, .int h, .ref c] ∧ WoAt K H w W ∧ WoOk n w W ∧ StOf W st ∧ CmdAt K H c cm ∧ okC cm ∧ Has W cm ∧ ∀ H', Same H H' → Q (.bl (fldW st h cm).isNone) H'
section
variable {P : Program} {wd : World} {K : PySem.W.Frag} {mg : Str → Option Value} {base : Heap} {f fN : Addr} {fd fdN : FuncData}
theorem cm_reserve {cm : Cm} (h : cmS cm = "reserve") : ∃ n w, cm = .reserve n w := by
  cases cm with
  | reserve n w => exact ⟨n, w, rfl⟩
  | _ => dsimp only [cmS] at h; exact absurd h (by decide +kernel)
theorem scLIdle : FnScope ["world", "host", "command", "name", "space"] ["world", "host", "command"] (defScope sLIdle) := ⟨rfl, rfl, rfl, by decide +kernel, rfl, by decide +kernel, by decide +kernel⟩
theorem ok_lidle (F : Fun K "_law_idle" "_law_idle" sLIdle f fd) : FnOk P wd K mg base CX0 1 f fd ["world", "host", "command"] (spLIdle K) := by
  refine F.ok scLIdle (fun vs H Q E h => ?_) (fun cdv A outer s H vs Q E hr h => ?_)
  · obtain ⟨w, W, n, st, h, c, cm, rfl, _⟩ := h
    rfl
  · obtain ⟨w, W, n, st, h, c, cm, rfl, WA, WK, SO, hc, oc, hs, q⟩ := h
    refine ⟨_, (pss_cons (ps_set (i := 3) scLIdle.nd rfl (Or.inl rfl) (pe_ix ix_tup (pv 2) pe_int (fun _ _ => rfl)))
      (pss_cons (ps_if (PW.pt (pw_or (pt_cmpR op_eq (pv 3) pe_str (nomark _)) (pw_or (pt_cmpR op_eq (pv 3) pe_str (nomark _)) (pw_or1 (pt_cmpR op_eq (pv 3) pe_str (nomark _))))))
      (pss_one (ps_ret pe_bl)) pss_nil)
      (pss_cons (ps_if (pt_cmpR op_eq (pv 3) pe_str (nomark _))
      (pss_one (ps_ret pe_bl)) pss_nil)
      (pss_cons (ps_set (i := 4) scLIdle.nd rfl (Or.inl rfl) (pe_dget (hu_of hr) (pe_ix ix_list (pv 0) pe_int (fun _ _ => rfl)) (pe_ix ix_tup (pv 2) pe_int (fun _ _ => rfl)) (fun _ _ => rfl)))
      (pss_cons (ps_if (pt_cmpR op_eq (pv 3) pe_str (nomark _))
      (pss_one (ps_ret (pe_cmp (pc_dnotin (hu_of hr) (pe_ix ix_tup (pv 2) pe_int (fun _ _ => rfl)) (pe_ix ix_list (pv 4) pe_int (fun _ _ => rfl))) rfl))) pss_nil)
      (pss_one (ps_ret (pe_or (pe_and (pe_cmpR op_eq (pv 3) pe_str (nomark _)) (pe_one (pe_cmp (pc_din (hu_of hr) (pv 1) (pe_ix ix_list (pv 4) pe_int (fun _ _ => rfl))) rfl))) (pe_one (pe_and (pe_cmpR op_eq (pv 3) pe_str (nomark _)) (pe_one (pe_cmpR (op_eqD hr.units) (pe_ix ix_list (pv 4) pe_int (fun _ _ => rfl)) (pe_tup (pa_cons (pv 1) (pa_cons (pe_ix ix_tup (pv 2) pe_int (fun _ _ => rfl)) pa_nil))) (nomark _))))))))))))), ?_⟩
    refine ⟨_, rfl, c, _, _, _, rfl, rfl, hc, atI_nat (j := 0) rfl, ?_⟩
    refine tOr_of _ _ (fun R r => word_t rfl R r) (fun R r => tOr_of _ _ (fun R r => word_t rfl R r) (fun R r => word_t rfl R r) r) ?_
    have e3 : (decide (cmS cm = "read") || (decide (cmS cm = "view") || decide (cmS cm = "flush"))) = strIn (cmS cm) ["read", "view", "flush"] := by
      unfold strIn
      simp only [List.any_cons, List.any_nil, Bool.or_false, eq_comm]
    rw [e3]
    rcases cm_rec cm with ⟨y, fn⟩ | ⟨y, nf, fn⟩
    · rw [y]
      refine chooseT rfl ?_
      have := q H (Same.refl _)
      rw [fn] at this; exact this
    rw [y]
    refine chooseF rfl ⟨_, rfl, rfl, _, rfl, ?_⟩
    by_cases e0 : cmS cm = "make"
    · refine chooseT (decide_eq_true (by rw [e0])) ?_
      obtain ⟨n', z, rfl⟩ := cm_make e0
      exact q H (Same.refl _)
    refine chooseF (str_eqF e0) ?_
    obtain ⟨sw, ls⟩ := hs nf e0
    have fn := fn e0 st h
    have hm := Sg.look_mem ls
    rcases one_look (n := nsC cm) SO.sp with ⟨l1, l2⟩ | ⟨sw', sp, l1, l2, OO⟩
    · rw [l1] at ls; cases ls
    obtain rfl : sw' = sw := by rw [l1] at ls; exact Option.some.inj ls
    rw [l2] at fn
    have fn : fldW st h cm = if trimN sp cm = true then none else fldIn sp h cm := fn
    rw [fn] at q
    clear fn
    obtain ⟨hv, hls, hhold, hca, hka⟩ := WA.ins _ hm
    refine sp_te WA hc nf ls rfl rfl ?_
    refine ⟨_, rfl, rfl, _, rfl, ?_⟩
    by_cases e1 : cmS cm = "trim"
    · refine chooseT (decide_eq_true (by rw [e1])) ?_
      obtain ⟨n', p, rfl⟩ := cm_trim e1
      refine ⟨_, rfl, c, _, _, _, rfl, rfl, hc, atI_nat (j := 2) rfl, _, rfl, sw'.ls, _, _, _, rfl, rfl, SqL.of hls, atI_nat (j := 1) rfl, sw'.ca, _, rfl, cell_look hca p, ?_⟩
      have q1 := q H (Same.refl _)
      have ec : sp.cs = sw'.cs := OO.cs
      rw [show trimN sp (.trim n' p) = (lookI sp.cs p).isNone from rfl, ec] at q1
      cases hl : lookI sw'.cs p with
      | none => rw [hl] at q1; exact q1
      | some v =>
        rw [hl] at q1
        have : fldIn sp h (.trim n' p) = some [.int n', .int p] := by
          refine fld_else ?_ (fun e => wstr (x := "trim") e (by decide +kernel)) (fun e => wstr (x := "trim") e (by decide +kernel))
          unfold idle
          rw [show decide (cmS (.trim n' p) = "register") = false from (show decide (("trim" : Str) = "register") = false by decide +kernel), show decide (cmS (.trim n' p) = "reserve") = false from (show decide (("trim" : Str) = "reserve") = false by decide +kernel)]
          rfl
        rw [this] at q1
        exact q1
    refine chooseF (str_eqF e1) ?_
    rw [trim_no e1, if_neg Bool.false_ne_true] at q
    have ef : (fldIn sp h cm).isNone = idle sw'.ks sw'.hd h (cmS cm) (cmI cm) := by
      have e1 : idle sp.rg sp.hd h (cmS cm) (cmI cm) = idle sw'.ks sw'.hd h (cmS cm) (cmI cm) := by
        rw [OO.hd]
        exact idle_congr (fun x => OO.rg.look (WK.kn _ hm) x) _ _ _ _
      rw [← e1]
      unfold fldIn
      cases idle sp.rg sp.hd h (cmS cm) (cmI cm) with
      | true => rfl
      | false => cases cm <;> rfl
    rw [ef] at q
    unfold idle at q
    refine ⟨_, rfl, rfl, _, rfl, ?_⟩
    by_cases e2 : cmS cm = "register"
    · refine chooseT (decide_eq_true (by rw [e2])) ⟨_, rfl, _, rfl, sw'.ls, _, _, _, rfl, rfl, SqL.of hls, atI_nat (j := 2) rfl, sw'.ka, _, rfl, DGet.k (k := Sum.inl h) hka, ?_⟩
      have nr : ¬ cmS cm = "reserve" := fun e => wstr (x := "register") (y := "reserve") (e2.symm.trans e) (by decide +kernel)
      rw [val_look, look_some]
      have q1 := q H (Same.refl _)
      rw [decide_eq_true e2, decide_eq_false nr, Bool.true_and, Bool.false_and, Bool.or_false] at q1
      refine ⟨_, rfl, ?_⟩
      cases hl : (look sw'.ks h).isSome with
      | true => rw [hl] at q1; exact chooseT rfl q1
      | false => rw [hl] at q1; exact chooseF rfl ⟨_, rfl, rfl, _, rfl, chooseF (str_eqF nr) q1⟩
    refine chooseF (str_eqF e2) ⟨_, rfl, chooseF rfl ⟨_, rfl, rfl, _, rfl, ?_⟩⟩
    rw [decide_eq_false e2, Bool.false_and, Bool.false_or] at q
    by_cases e4 : cmS cm = "reserve"
    · refine chooseT (decide_eq_true (by rw [e4])) ?_
      obtain ⟨n', wy, rfl⟩ := cm_reserve e4
      rw [decide_eq_true e4, Bool.true_and] at q
      refine ⟨_, rfl, sw'.ls, _, _, _, rfl, rfl, SqL.of hls, atI_nat (j := 3) rfl, _, rfl, _, rfl, c, _, _, _, rfl, rfl, hc, atI_nat (j := 2) rfl, by show 2 ≤ sizeLine; decide, fun t ht => ?_⟩
      have s2 := same_new (o := .tup [V.int h, V.str wy]) ht
      refine ⟨_, _, (hhold.tk (TK.of s2)).dp, .tup (SqT.of upd_same) (.cons (.int _) (.cons (.str _) .nil)), hold_shaped hhold.sok, hold_shaped (hd := some (h, wy)) oc, ?_⟩
      rw [show PyData.eqv (holdD sw'.hd) (.tuple [.int h, .str wy]) = _ from hold_eqv sw'.hd (some (h, wy))]
      exact q _ s2
    · rw [decide_eq_false e4, Bool.false_and] at q
      exact chooseF (str_eqF e4) (q H (Same.refl _))
def spLVal (K : PySem.W.Frag) : Sp := fun vs H Q _ => ∃ w W n st h c cm, vs = [.ref w, .int h, .ref c] ∧ WoAt K H w W ∧ WoOk n w W ∧ StOf W st ∧ CmdAt K H c cm ∧ ¬ cmS cm = "flush" ∧ Has W cm ∧ (∀ n m p, cm = .view n m p → ∃ cs, lookI st.sn (n, m) = some cs) ∧ ∀ H', Same H H' → Q (oV (valW st h (W.o + 1) cm)) H'
theorem scLVal : FnScope ["world", "host", "command", "name"] ["world", "host", "command"] (defScope sLVal) := ⟨rfl, rfl, rfl, by decide +kernel, rfl, by decide +kernel, by decide +kernel⟩
theorem ok_lval (F : Fun K "_law_value" "_law_value" sLVal f fd) : FnOk P wd K mg base CX0 1 f fd ["world", "host", "command"] (spLVal K) := by
  refine F.ok scLVal (fun vs H Q E h => ?_) (fun cdv A outer s H vs Q E hr h => ?_)
  · obtain ⟨w, W, n, st, h, c, cm, rfl, _⟩ := h
    rfl
  · obtain ⟨w, W, n, st, h, c, cm, rfl, WA, WK, SO, hc, nf, hs, hv, q⟩ := h
    refine ⟨_, (pss_cons (ps_set (i := 3) scLVal.nd rfl (Or.inl rfl) (pe_ix ix_tup (pv 2) pe_int (fun _ _ => rfl)))
      (pss_cons (ps_if (pt_cmpR op_eq (pv 3) pe_str (nomark _))
      (pss_one (ps_ret (pe_dget1 (hu_of hr) (pe_ix ix_list (pe_dget (hu_of hr) (pe_ix ix_list (pv 0) pe_int (fun _ _ => rfl)) (pe_ix ix_tup (pv 2) pe_int (fun _ _ => rfl)) (fun _ _ => rfl)) pe_int (fun _ _ => rfl)) (pe_ix ix_tup (pv 2) pe_int (fun _ _ => rfl)) ⟨rfl, rfl, rfl, rfl⟩))) pss_nil)
      (pss_cons (ps_if (pt_cmpR op_eq (pv 3) pe_str (nomark _))
      (pss_one (ps_ret (pe_dget1 (hu_of hr) (pe_dget (hu_of hr) (pe_ix ix_list (pv 0) pe_int (fun _ _ => rfl)) (pe_tup (pa_cons (pe_ix ix_tup (pv 2) pe_int (fun _ _ => rfl)) (pa_cons (pe_ix ix_tup (pv 2) pe_int (fun _ _ => rfl)) pa_nil))) (fun _ _ => rfl)) (pe_ix ix_tup (pv 2) pe_int (fun _ _ => rfl)) ⟨rfl, rfl, rfl, rfl⟩))) pss_nil)
      (pss_cons (ps_if (PW.pt (pw_and (pt_cmpR op_eq (pv 3) pe_str (nomark _)) (pw_and1 (pt_cmp (pc_din (hu_of hr) (pv 1) (pe_ix ix_list (pe_dget (hu_of hr) (pe_ix ix_list (pv 0) pe_int (fun _ _ => rfl)) (pe_ix ix_tup (pv 2) pe_int (fun _ _ => rfl)) (fun _ _ => rfl)) pe_int (fun _ _ => rfl)))))))
      (pss_one (ps_ret (pe_dget (hu_of hr) (pe_ix ix_list (pe_dget (hu_of hr) (pe_ix ix_list (pv 0) pe_int (fun _ _ => rfl)) (pe_ix ix_tup (pv 2) pe_int (fun _ _ => rfl)) (fun _ _ => rfl)) pe_int (fun _ _ => rfl)) (pv 1) (fun _ _ => rfl)))) pss_nil)
      (pss_cons (ps_if (PW.pt (pw_or (pt_cmpR op_eq (pv 3) pe_str (nomark _)) (pw_or1 (pt_cmpR op_eq (pv 3) pe_str (nomark _)))))
      (pss_one (ps_ret (pe_op op_add (pe_ix ix_list (pv 0) pe_int (fun _ _ => rfl)) pe_int))) pss_nil)
      (pss_one (ps_ret pe_non))))))), ?_⟩
    refine ⟨_, rfl, c, _, _, _, rfl, rfl, hc, atI_nat (j := 0) rfl, _, rfl, rfl, _, rfl, ?_⟩
    by_cases e1 : cmS cm = "read"
    · refine chooseT (decide_eq_true (by rw [e1])) ?_
      obtain ⟨n', p, rfl⟩ := cm_read e1
      obtain ⟨sw, ls⟩ := hs nf (fun e => wstr (x := "read") e (by decide +kernel))
      rcases one_look (n := n') SO.sp with ⟨l1, l2⟩ | ⟨sw', sp, l1, l2, OO⟩
      · rw [show nsC (.read n' p) = n' from rfl, l1] at ls; cases ls
      obtain rfl : sw' = sw := by rw [show nsC (.read n' p) = n' from rfl, l1] at ls; exact Option.some.inj ls
      obtain ⟨hv, hls, hhold, hca, hka⟩ := WA.ins _ (Sg.look_mem l1)
      have hcx := hca
      obtain ⟨ckv, hck, _⟩ := hcx
      refine sp_te (cm := .read n' p) WA hc nf ls rfl rfl ⟨sw'.ls, _, _, _, rfl, rfl, SqL.of hls, atI_nat (j := 1) rfl, sw'.ca, rfl, .inl ⟨_, .inl hck⟩, _, rfl, c, _, _, _, rfl, rfl, hc, atI_nat (j := 2) rfl, _, cell_look hca p, ?_⟩
      rw [oV_get]
      have q1 := q H (Same.refl _)
      have ec : sp.cs = sw'.cs := OO.cs
      rw [show valW st h (W.o + 1) (.read n' p) = (lookI st.sp n').bind fun s => lookI s.cs p from rfl, l2] at q1
      rw [← ec]
      exact q1
    refine chooseF (str_eqF e1) ⟨_, rfl, rfl, _, rfl, ?_⟩
    by_cases e2 : cmS cm = "view"
    · refine chooseT (decide_eq_true (by rw [e2])) ?_
      obtain ⟨n', m, p, rfl⟩ := cm_view e2
      obtain ⟨cs, ls⟩ := hv n' m p rfl
      rw [SO.sn, sn_look] at ls
      cases hl : lookI W.sn (n', m) with
      | none => rw [hl] at ls; cases ls
      | some x =>
        refine ⟨_, rfl, w, _, _, _, rfl, rfl, SqL.of WA.top, atI_nat (j := 1) rfl, _, rfl, c, _, _, _, rfl, rfl, hc, atI_nat (j := 1) rfl, _, rfl, c, _, _, _, rfl, rfl, hc, atI_nat (j := 2) rfl, by show 2 ≤ sizeLine; decide, fun t ht => ?_⟩
        have s2 := same_new (o := .tup [V.int n', V.int m]) ht
        have e2' : (upd H t (.tup [V.int n', V.int m])) t = some (.tup [V.int n', V.int m]) := upd_same
        generalize upd H t (.tup [V.int n', V.int m]) = H2 at s2 e2'
        have WA2 := WA.same s2
        have g := WA2.getN e2'
        rw [hl] at g
        have hca := WA2.cel _ (Sg.look_mem hl)
        obtain ⟨ckv, hck, _⟩ := id hca
        refine ⟨W.N, _, rfl, g, x.1, rfl, .inl ⟨_, .inl hck⟩, _, rfl, c, _, _, _, rfl, rfl, SqT_same s2 hc, atI_nat (j := 3) rfl, _, cell_look hca p, ?_⟩
        rw [oV_get]
        have q1 := q _ s2
        rw [show valW st h (W.o + 1) (.view n' m p) = (lookI st.sn (n', m)).bind fun cs => lookI cs p from rfl, SO.sn, sn_look, hl] at q1
        exact q1
    refine chooseF (str_eqF e2) ?_
    have fin : valW st h (W.o + 1) cm = (if decide (cmS cm = "snap") || decide (cmS cm = "register") then some (W.o + 1) else none) → tSeq (tIfS (tOr (tTest (tOp rEq (tVar 3) (tC (.str "snap")))) (tTest (tOp rEq (tVar 3) (tC (.str "register"))))) (tRet (tOp (rI0 fun i j => V.int (i + j)) (tOp (rIxL K) (tVar 0) (tC (.int 2))) (tC (.int 1)))) tNext) (tRet (tC .non)) { nx := fun _ H' => Q .non H', rt := Q } [some (.ref w), some (.int h), some (.ref c), some (.str (cmS cm))] H := fun ev => by
      have q1 := q H (Same.refl _)
      rw [ev] at q1
      refine tOr_of _ _ (fun R r => word_t rfl R r) (fun R r => word_t rfl R r) ?_
      cases e5 : (decide (cmS cm = "snap") || decide (cmS cm = "register")) with
      | true =>
        rw [e5] at q1
        exact chooseT rfl ⟨_, rfl, w, _, _, _, rfl, rfl, SqL.of WA.top, atI_nat (j := 2) rfl, _, _, rfl, rfl, q1⟩
      | false => rw [e5] at q1; exact chooseF rfl q1
    refine tAnd_of _ (fun R r => word_t rfl R r) (fun er => ?_) (fun er => ?_)
    · have er := of_decide_eq_true er
      obtain ⟨n', rfl⟩ := cm_register er
      obtain ⟨sw, ls⟩ := hs nf (fun e => wstr (x := "register") e (by decide +kernel))
      rcases one_look (n := n') SO.sp with ⟨l1, l2⟩ | ⟨sw', sp, l1, l2, OO⟩
      · rw [show nsC (.register n') = n' from rfl, l1] at ls; cases ls
      obtain rfl : sw' = sw := by rw [show nsC (.register n') = n' from rfl, l1] at ls; exact Option.some.inj ls
      have hm := Sg.look_mem l1
      obtain ⟨hv, hls, hhold, hca, hka⟩ := WA.ins _ hm
      have ev : valW st h (W.o + 1) (.register n') = some ((look sw'.ks h).getD (W.o + 1)) := by
        rw [show valW st h (W.o + 1) (.register n') = (lookI st.sp n').map fun s => (look s.rg h).getD (W.o + 1) from rfl, l2]
        show some ((look sp.rg h).getD (W.o + 1)) = _
        rw [OO.rg.look (WK.kn _ hm)]
      have g := DGet.k (k := Sum.inl h) hka
      refine ⟨_, rfl, sp_te (cm := .register n') WA hc nf ls rfl rfl ⟨sw'.ls, _, _, _, rfl, rfl, SqL.of hls, atI_nat (j := 2) rfl, sw'.ka, _, rfl, g, _, rfl, ?_⟩⟩
      rw [val_look, look_some]
      rw [val_look] at g
      cases hl : look sw'.ks h with
      | some k =>
        rw [hl] at ev g
        refine chooseT rfl (sp_te (cm := .register n') WA hc nf ls rfl rfl ⟨sw'.ls, _, _, _, rfl, rfl, SqL.of hls, atI_nat (j := 2) rfl, _, rfl, sw'.ka, V.int k, rfl, g, ?_⟩)
        have q1 := q H (Same.refl _)
        rw [ev] at q1
        exact q1
      | none =>
        rw [hl] at ev
        refine chooseF rfl (fin ?_)
        rw [ev, show (decide (cmS (.register n') = "snap") || decide (cmS (.register n') = "register")) = true from (show (decide (("register" : Str) = "snap") || decide (("register" : Str) = "register")) = true by decide +kernel)]
        rfl
    · have er := of_decide_eq_false er
      refine chooseF rfl (fin ?_)
      by_cases e3 : cmS cm = "snap"
      · obtain ⟨n', rfl⟩ := cm_snap e3
        rw [decide_eq_true e3]; rfl
      · rw [cm_val e1 e2 e3 er, decide_eq_false e3, decide_eq_false er]; rfl
def spLFields (K : PySem.W.Frag) : Sp := fun vs H Q _ => ∃ w W n st h c cm, vs = [.ref w, .int h, .ref c] ∧ WoAt K H w W ∧ WoOk n w W ∧ StOf W st ∧ CmdAt K H c cm ∧ Has W cm ∧ ¬ fldW st h cm = none ∧ ∀ v H', Same H H' → OptTup K H' v (fldW st h cm) → Q v H'
theorem cm_fld {st : Sta} {h : Int} {cm : Cm} (h1 : ¬ cmS cm = "leave") (h2 : ¬ cmS cm = "preempt") (e : ¬ fldW st h cm = none) : fldW st h cm = some (cmI cm) := by
  rcases cm_rec cm with ⟨_, fn⟩ | ⟨_, nf, fn⟩
  · exact absurd (fn st h) e
  by_cases e0 : cmS cm = "make"
  · obtain ⟨n, z, rfl⟩ := cm_make e0; rfl
  · have fn := fn e0 st h
    cases hl : lookI st.sp (nsC cm) with
    | none => rw [hl] at fn; exact absurd fn e
    | some s =>
      rw [hl] at fn
      have fn : fldW st h cm = if trimN s cm = true then none else fldIn s h cm := fn
      cases ht : trimN s cm with
      | true => rw [ht, if_pos rfl] at fn; exact absurd fn e
      | false =>
        rw [ht, if_neg Bool.false_ne_true] at fn
        rw [fn]
        cases hi : idle s.rg s.hd h (cmS cm) (cmI cm) with
        | false => exact fld_else hi h1 h2
        | true =>
          unfold fldIn at fn
          rw [hi, if_pos rfl] at fn
          exact absurd fn e
/-- space[3] is not None and space[3][0] == who -/
theorem holds_te {K : PySem.W.Frag} {σ : L2.St} {H : Hp} {R : VK} {sw : Sw} {hv : V} {who : Int} (h4 : σ[4]? = some (some (.ref sw.ls))) (h5 : σ[5]? = some (some (.int who))) (hls : H sw.ls = some (.lst [.int sw.z, .ref sw.ca, .ref sw.ka, hv])) (hh : HoldV K H hv sw.hd) (r : R (.bl (wayHas sw.hd who)) H) :
    tAndV (tOp (fun x y H Q => y = V.non ∧ Q (V.bl !decide (x = V.non)) H) (tOp (rIxL K) (tVar 4) (tC (.int 3))) (tC .non)) (tOp rEq (tOp (rIxT K) (tOp (rIxL K) (tVar 4) (tC (.int 3))) (tC (.int 0))) (tVar 5)) σ H R := by
  refine ⟨_, h4, sw.ls, _, _, _, rfl, rfl, SqL.of hls, atI_nat (j := 3) rfl, rfl, _, rfl, ?_⟩
  rw [hold_non hh]
  generalize sw.hd = hd at hh r
  cases hd with
  | none => exact iteF r
  | some x =>
    obtain ⟨g, w⟩ := x
    obtain ⟨t, rfl, ht, _⟩ := (show ∃ q, hv = .ref q ∧ SqT K H q [.int g, .str w] ∧ PyData.strOk w = true from hh)
    refine iteT ⟨_, h4, sw.ls, _, _, _, rfl, rfl, SqL.of hls, atI_nat (j := 3) rfl, t, _, _, _, rfl, rfl, ht, atI_nat (j := 0) rfl, _, h5, rfl, ?_⟩
    by_cases z : g = who
    · have e : wayHas (some (g, w)) who = true := by
        unfold wayHas
        rw [show wayV (some (g, w)) who = V.str w from if_pos z]; rfl
      rw [e] at r
      rw [decide_eq_true (show V.int g = V.int who by rw [z])]; exact r
    · have e : wayHas (some (g, w)) who = false := by
        unfold wayHas
        rw [show wayV (some (g, w)) who = V.non from if_neg z]; rfl
      rw [e] at r
      rw [decide_eq_false (show ¬ V.int g = V.int who from fun y => z (by injection y))]; exact r
theorem cm_in2 {st : Sta} {h : Int} {cm : Cm} {s : Spc} (l2 : lookI st.sp (nsC cm) = some s) (h1 : cmS cm = "leave" ∨ cmS cm = "preempt") (ne : ¬ fldW st h cm = none) : fldW st h cm = fldIn s h cm ∧ idle s.rg s.hd h (cmS cm) (cmI cm) = false := by
  have nt : ¬ cmS cm = "trim" := fun e => by
    rcases h1 with h1 | h1
    · exact wstr (x := "trim") (y := "leave") (e.symm.trans h1) (by decide +kernel)
    · exact wstr (x := "trim") (y := "preempt") (e.symm.trans h1) (by decide +kernel)
  have n0 : ¬ cmS cm = "make" := fun e => by
    rcases h1 with h1 | h1
    · exact wstr (x := "make") (y := "leave") (e.symm.trans h1) (by decide +kernel)
    · exact wstr (x := "make") (y := "preempt") (e.symm.trans h1) (by decide +kernel)
  rcases cm_rec cm with ⟨_, fn⟩ | ⟨_, nf, fn⟩
  · exact absurd (fn st h) ne
  have fn := fn n0 st h
  rw [l2] at fn
  have fn : fldW st h cm = if trimN s cm = true then none else fldIn s h cm := fn
  rw [trim_no nt, if_neg Bool.false_ne_true] at fn
  refine ⟨fn, ?_⟩
  cases hi : idle s.rg s.hd h (cmS cm) (cmI cm) with
  | false => rfl
  | true =>
    unfold fldIn at fn
    rw [hi, if_pos rfl] at fn
    exact absurd fn ne
theorem scLFields : FnScope ["world", "host", "command", "name", "space", "who", "holds", "way"] ["world", "host", "command"] (defScope sLFields) := ⟨rfl, rfl, rfl, by decide +kernel, rfl, by decide +kernel, by decide +kernel⟩
theorem ok_lfields (F : Fun K "_law_fields" "_law_fields" sLFields f fd) : FnOk P wd K mg base CX0 1 f fd ["world", "host", "command"] (spLFields K) := by
  refine F.ok scLFields (fun vs H Q E h => ?_) (fun cdv A outer s H vs Q E hr h => ?_)
  · obtain ⟨w, W, n, st, h, c, cm, rfl, _⟩ := h
    rfl
  · obtain ⟨w, W, n, st, h, c, cm, rfl, WA, WK, SO, hc, hs, ne, q⟩ := h
    refine ⟨_, (pss_cons (ps_set (i := 3) scLFields.nd rfl (Or.inl rfl) (pe_ix ix_tup (pv 2) pe_int (fun _ _ => rfl)))
      (pss_cons (ps_if (PW.pt (pw_or (pt_cmpR op_eq (pv 3) pe_str (nomark _)) (pw_or1 (pt_cmpR op_eq (pv 3) pe_str (nomark _)))))
      (pss_cons (ps_set (i := 4) scLFields.nd rfl (Or.inl rfl) (pe_dget (hu_of hr) (pe_ix ix_list (pv 0) pe_int (fun _ _ => rfl)) (pe_ix ix_tup (pv 2) pe_int (fun _ _ => rfl)) (fun _ _ => rfl)))
      (pss_cons (ps_set (i := 5) scLFields.nd rfl (Or.inl rfl) (pv 1))
      (pss_cons (ps_if (pt_cmpR op_eq (pv 3) pe_str (nomark _))
      (pss_one (ps_set (i := 5) scLFields.nd rfl (Or.inl rfl) (pe_ix ix_tup (pv 2) pe_int (fun _ _ => rfl)))) pss_nil)
      (pss_cons (ps_set (i := 6) scLFields.nd rfl (Or.inl rfl) (pe_and (pe_cmpR op_notN (pe_ix ix_list (pv 4) pe_int (fun _ _ => rfl)) pe_non (nomark _)) (pe_one (pe_cmpR op_eq (pe_ix ix_tup (pe_ix ix_list (pv 4) pe_int (fun _ _ => rfl)) pe_int (fun _ _ => rfl)) (pv 5) (nomark _)))))
      (pss_cons (ps_if (pt_cmpR op_eq (pv 3) pe_str (nomark _))
      (pss_one (ps_ret (pe_tup (pa_cons (pe_ix ix_tup (pv 2) pe_int (fun _ _ => rfl)) (pa_cons (pv 6) pa_nil))))) pss_nil)
      (pss_cons (ps_set (i := 7) scLFields.nd rfl (Or.inl rfl) pe_non)
      (pss_cons (ps_if (pt_val (pv 6))
      (pss_one (ps_set (i := 7) scLFields.nd rfl (Or.inl rfl) (pe_ix ix_tup (pe_ix ix_list (pv 4) pe_int (fun _ _ => rfl)) pe_int (fun _ _ => rfl)))) pss_nil)
      (pss_one (ps_ret (pe_tup (pa_cons (pe_ix ix_tup (pv 2) pe_int (fun _ _ => rfl)) (pa_cons (pe_ix ix_tup (pv 2) pe_int (fun _ _ => rfl)) (pa_cons (pv 7) pa_nil))))))))))))) pss_nil)
      (pss_one (ps_ret (pe_slice sl_any (pv 2) (po_some pe_int) po_none))))), ?_⟩
    refine ⟨_, rfl, c, _, _, _, rfl, rfl, hc, atI_nat (j := 0) rfl, ?_⟩
    refine tOr_of _ _ (fun R r => word_t rfl R r) (fun R r => word_t rfl R r) ?_
    by_cases e1 : cmS cm = "leave"
    · obtain ⟨n', rfl⟩ := cm_leave e1
      rw [decide_eq_true e1, Bool.true_or]
      refine chooseT rfl ?_
      obtain ⟨sw, ls⟩ := hs (fun e => wstr (x := "leave") (y := "flush") e (by decide +kernel)) (fun e => wstr (x := "leave") (y := "make") e (by decide +kernel))
      rcases one_look (n := n') SO.sp with ⟨l1, l2⟩ | ⟨sw', sp, l1, l2, OO⟩
      · rw [show nsC (.leave n') = n' from rfl, l1] at ls; cases ls
      obtain rfl : sw' = sw := by rw [show nsC (.leave n') = n' from rfl, l1] at ls; exact Option.some.inj ls
      obtain ⟨hv, hls, hhold, hca, hka⟩ := WA.ins _ (Sg.look_mem l1)
      have nf : ¬ cmS (.leave n') = "flush" := fun e => wstr (x := "leave") (y := "flush") e (by decide +kernel)
      obtain ⟨fw, fi⟩ := cm_in2 (cm := .leave n') l2 (.inl e1) ne
      have e5 : fldW st h (.leave n') = some [.int n', .bl (wayHas sw'.hd h)] := by
        rw [fw]
        unfold fldIn
        rw [fi, if_neg Bool.false_ne_true]
        show some [V.int n', V.bl (wayHas sp.hd h)] = _
        rw [OO.hd]
      rw [e5] at q
      refine sp_te (cm := .leave n') WA hc nf ls rfl rfl ⟨_, rfl, _, rfl, rfl, _, rfl, chooseF (str_eqF (show ¬ ("leave" : Str) = "preempt" by decide +kernel)) ?_⟩
      refine holds_te rfl rfl hls hhold ⟨_, rfl, rfl, _, rfl, chooseT str_eqT ?_⟩
      refine ⟨_, rfl, c, _, _, _, rfl, rfl, hc, atI_nat (j := 1) rfl, _, rfl, by show 2 ≤ sizeLine; decide, fun t ht => ?_⟩
      exact q _ _ (same_new ht) ⟨t, rfl, SqT.of upd_same⟩
    by_cases e2 : cmS cm = "preempt"
    · obtain ⟨n', v, rfl⟩ := cm_preempt e2
      rw [decide_eq_false e1, decide_eq_true e2, Bool.false_or]
      refine chooseT rfl ?_
      obtain ⟨sw, ls⟩ := hs (fun e => wstr (x := "preempt") (y := "flush") e (by decide +kernel)) (fun e => wstr (x := "preempt") (y := "make") e (by decide +kernel))
      rcases one_look (n := n') SO.sp with ⟨l1, l2⟩ | ⟨sw', sp, l1, l2, OO⟩
      · rw [show nsC (.preempt n' v) = n' from rfl, l1] at ls; cases ls
      obtain rfl : sw' = sw := by rw [show nsC (.preempt n' v) = n' from rfl, l1] at ls; exact Option.some.inj ls
      obtain ⟨hv, hls, hhold, hca, hka⟩ := WA.ins _ (Sg.look_mem l1)
      have nf : ¬ cmS (.preempt n' v) = "flush" := fun e => wstr (x := "preempt") (y := "flush") e (by decide +kernel)
      obtain ⟨fw, fi⟩ := cm_in2 (cm := .preempt n' v) l2 (.inr e2) ne
      have e5 : fldW st h (.preempt n' v) = some [.int n', .int v, wayV sw'.hd v] := by
        rw [fw]
        unfold fldIn
        rw [fi, if_neg Bool.false_ne_true]
        show some [V.int n', V.int v, wayV sp.hd v] = _
        rw [OO.hd]
      rw [e5] at q
      refine sp_te (cm := .preempt n' v) WA hc nf ls rfl rfl ⟨_, rfl, _, rfl, rfl, _, rfl, chooseT str_eqT ⟨_, rfl, c, _, _, _, rfl, rfl, hc, atI_nat (j := 2) rfl, ?_⟩⟩
      refine holds_te rfl rfl hls hhold ⟨_, rfl, rfl, _, rfl, chooseF (str_eqF (show ¬ ("preempt" : Str) = "leave" by decide +kernel)) ?_⟩
      have fin : ∀ x, x = wayV sw'.hd v → tRet (tTup (tCons (tOp (rIxT K) (tVar 2) (tC (.int 1))) (tCons (tOp (rIxT K) (tVar 2) (tC (.int 2))) (tCons (tVar 7) tNil)))) { nx := fun _ H' => Q .non H', rt := Q } [some (.ref w), some (.int h), some (.ref c), some (.str "preempt"), some (.ref sw'.ls), some (.int v), some (.bl (wayHas sw'.hd v)), some x] H := fun x ex => by
        subst ex
        refine ⟨_, rfl, c, _, _, _, rfl, rfl, hc, atI_nat (j := 1) rfl, _, rfl, c, _, _, _, rfl, rfl, hc, atI_nat (j := 2) rfl, _, rfl, by show 3 ≤ sizeLine; decide, fun t ht => ?_⟩
        exact q _ _ (same_new ht) ⟨t, rfl, SqT.of upd_same⟩
      refine ⟨_, rfl, _, rfl, ?_⟩
      cases hw : wayHas sw'.hd v with
      | false =>
        rw [hw] at fin
        refine chooseF rfl (fin _ ?_)
        unfold wayHas at hw
        cases hz : wayV sw'.hd v <;> (first | rfl | (rw [hz] at hw; cases hw))
      | true =>
        rw [hw] at fin
        cases hd : sw'.hd with
        | none => rw [hd] at hw; cases hw
        | some x =>
          obtain ⟨g, wy⟩ := x
          rw [hd] at hhold hw
          obtain ⟨t, rfl, ht, _⟩ := (show ∃ q, hv = .ref q ∧ SqT K H q [.int g, .str wy] ∧ PyData.strOk wy = true from hhold)
          refine chooseT rfl ⟨_, rfl, sw'.ls, _, _, _, rfl, rfl, SqL.of hls, atI_nat (j := 3) rfl, t, _, _, _, rfl, rfl, ht, atI_nat (j := 1) rfl, fin _ ?_⟩
          rw [hd]
          by_cases z : g = v
          · exact (if_pos z).symm
          · unfold wayHas at hw
            rw [show wayV (some (g, wy)) v = V.non from if_neg z] at hw; cases hw
    · rw [decide_eq_false e1, decide_eq_false e2, Bool.false_or]
      refine chooseF rfl ⟨_, rfl, _, rfl, c, _, rfl, hc, fun p H' s' hp => ?_⟩
      rw [cut1] at hp
      exact q _ H' s' (by rw [cm_fld e1 e2 ne]; exact ⟨p, rfl, hp⟩)
def spLKy (K : PySem.W.Frag) : Sp := fun vs H Q _ => ∃ w W n h c cm p q, vs = [.ref w, .int h, .ref c, .ref p] ∧ WoAt K H w W ∧ WoOk n w W ∧ CmdAt K H c cm ∧ TapeAt K H p q ∧ ∀ key H', Off [p] H H' → TapeAt K H' p q → Q (optI key) H'
theorem scLKy : FnScope ["world", "host", "command", "tape", "key"] ["world", "host", "command", "tape"] (defScope sLKy) := ⟨rfl, rfl, rfl, by decide +kernel, rfl, by decide +kernel, by decide +kernel⟩
theorem ok_lky (F : Fun K "_law_key" "_law_key" sLKy f fd) (GN : Def P wd K mg base CX0 "_law_next" 1 ["tape", "many"] (spNext K) fN fdN) : FnOk P wd K mg base CX0 2 f fd ["world", "host", "command", "tape"] (spLKy K) := by
  refine F.ok scLKy (fun vs H Q E h => ?_) (fun cdv A outer s H vs Q E hr h => ?_)
  · obtain ⟨w, W, n, h, c, cm, p, q, rfl, _⟩ := h
    rfl
  · obtain ⟨w, W, n, h, c, cm, p, q', rfl, WA, WK, hc, tp, q⟩ := h
    have hr1 : Room 1 _ := hr
    refine ⟨_, (pss_cons (ps_set (i := 4) scLKy.nd rfl (Or.inl rfl) pe_non)
      (Evl.pss_cut (ps_if (PW.pt (pw_and (pt_cmpR op_ne (pe_ix ix_tup (pv 2) pe_int (fun _ _ => rfl)) pe_str (nomark _)) (pw_and (pt_cmpR op_ne (pe_ix ix_tup (pv 2) pe_int (fun _ _ => rfl)) pe_str (nomark _)) (pw_and1 (pt_cmp (pc_din (hu_of hr) (pe_ix ix_tup (pv 2) pe_int (fun _ _ => rfl)) (pe_ix ix_list (pv 0) pe_int (fun _ _ => rfl))))))))
      (pss_one (ps_set (i := 4) scLKy.nd rfl (Or.inl rfl) (pe_dget1 (hu_of hr) (pe_ix ix_list (pe_dget (hu_of hr) (pe_ix ix_list (pv 0) pe_int (fun _ _ => rfl)) (pe_ix ix_tup (pv 2) pe_int (fun _ _ => rfl)) (fun _ _ => rfl)) pe_int (fun _ _ => rfl)) (pv 1) ⟨rfl, rfl, rfl, rfl⟩))) pss_nil)
      (Evl.pss_cut (ps_if (pt_cmpR op_eq (pe_call GN.ok hr1 (by rfl) GN.mg GN.kp GN.bd .nil pass0 (pa_cons (pv 3) (pa_cons pe_int pa_nil))) pe_int (nomark _))
      (pss_one (ps_set (i := 4) scLKy.nd rfl (Or.inl rfl) (pe_ix ix_list (pe_lst (pa_cons pe_non (pa_cons (pe_op op_add pe_int (pe_call GN.ok hr1 (by rfl) GN.mg GN.kp GN.bd .nil pass0 (pa_cons (pv 3) (pa_cons pe_int pa_nil)))) pa_nil))) (pe_call GN.ok hr1 (by rfl) GN.mg GN.kp GN.bd .nil pass0 (pa_cons (pv 3) (pa_cons pe_int pa_nil))) (fun _ _ => rfl)))) pss_nil)
      (pss_one (ps_ret (pv 4)))))), ?_⟩
    refine ⟨fun σ' G => ∃ key, σ' = [some (.ref w), some (.int h), some (.ref c), some (.ref p), some (optI key)] ∧ H = G, ?_, ?_⟩
    · refine ⟨_, rfl, c, _, _, _, rfl, rfl, hc, atI_nat (j := 0) rfl, rfl, _, rfl, ?_⟩
      by_cases e0 : cmS cm = "make"
      · exact chooseF (by rw [e0, str_eqT]; rfl) (chooseF rfl ⟨none, rfl, rfl⟩)
      refine chooseT (by rw [str_eqF e0]; rfl) ⟨_, rfl, c, _, _, _, rfl, rfl, hc, atI_nat (j := 0) rfl, rfl, _, rfl, ?_⟩
      by_cases nf : cmS cm = "flush"
      · exact chooseF (by rw [nf, str_eqT]; rfl) (chooseF rfl ⟨none, rfl, rfl⟩)
      refine chooseT (by rw [str_eqF nf]; rfl) (cm_one hc nf rfl ⟨_, rfl, w, _, _, _, rfl, rfl, SqL.of WA.top, atI_nat (j := 0) rfl, W.S, _, rfl, WA.get _, _, rfl, ?_⟩)
      cases ls : lookI W.sp (nsC cm) with
      | none => exact chooseF rfl ⟨none, rfl, rfl⟩
      | some sw =>
        obtain ⟨hv, hls, hhold, hca, hka⟩ := WA.ins _ (Sg.look_mem ls)
        refine chooseT rfl (sp_te WA hc nf ls rfl rfl ⟨sw.ls, _, _, _, rfl, rfl, SqL.of hls, atI_nat (j := 2) rfl, sw.ka, rfl, .inl ⟨_, .inl hka⟩, _, rfl, _, DGet.k (k := Sum.inl h) hka, ?_⟩)
        rw [val_opt]
        exact ⟨look sw.ks h, rfl, rfl⟩
    rintro σ' _ ⟨key, rfl, rfl⟩
    refine ⟨fun σ' G => ∃ key, σ' = [some (.ref w), some (.int h), some (.ref c), some (.ref p), some (optI key)] ∧ Off [p] H G ∧ TapeAt K G p q', ?_, ?_⟩
    · refine ⟨_, rfl, p, q', 8, rfl, tp, by decide, by decide, fun a H1 _ _ o1 t1 => ⟨rfl, _, rfl, ?_⟩⟩
      by_cases ea : a = 0
      · refine chooseT (decide_eq_true (by rw [ea])) ⟨_, rfl, p, q', 12, rfl, t1, by decide, by decide, fun b H2 _ _ o2 t2 => ⟨_, _, rfl, rfl, by show 2 ≤ sizeLine; decide, fun l hl => ?_⟩⟩
        refine ⟨_, rfl, lit_ix (n := 2) hl t2 rfl (by decide) (by decide) fun x H3 hx o3 t3 => ?_⟩
        have o13 := (o1.trans o2).trans o3
        rcases List.mem_cons.mp hx with rfl | hx
        · exact ⟨none, rfl, o13, t3⟩
        · rcases List.mem_cons.mp hx with rfl | hx
          · exact ⟨some _, rfl, o13, t3⟩
          · cases hx
      · exact chooseF (decide_eq_false (fun z => ea (by injection z))) ⟨key, rfl, o1, t1⟩
    rintro σ' G ⟨key, rfl, o1, t1⟩
    exact ⟨_, rfl, q key G o1 t1⟩
end
end Sg.Fe

set_option Elab.async false
set_option linter.all false
set_option maxRecDepth 100000
set_option maxHeartbeats 4000000
namespace Sg.Fe
open PySem PySem.Spec PyProof.Rows L2
/-! ### d.pop(k): k a tuple that is there -/
section
open PySem.W PySem.Calls
variable {prog : Program} {w : World} {κ : Type} [DecidableEq κ] {knd : HeapKind prog w κ}
theorem pop_there {d b : Addr} {k : κ} : MeetsIn prog w (Builtin.«dict.pop» ⟨[.ref d, .ref b], []⟩) (fun A R s => ∃ xs p, knd.room A.in1 ∧ knd.is s.heap k b ∧ s.heap.DictOfH knd d xs ∧ xs.length ≤ sizeLine ∧ atKey xs k = some p ∧
      ∀ h' tk, h'.DictOfH knd d (DT.dropH xs k) → Heap.SameBut d s.heap h' → R (.ok (.ret p.2)) { s with heap := h', toks := tk }) := by
  refine .of_wp fun A R s ⟨xs, p, hu, hkey, hm, hsz, hp, hq⟩ => ?_
  obtain ⟨o, es, ep, ho, hc, hdat, he, his, hn⟩ := id hm
  have hes : es.size = xs.length := size_of_entries he
  unfold Builtin.«dict.pop» Builtin.Dict.keyAndDefault
  refine wpAny_bind (wpAny_bind (wpAny_notOrdered_dict hm.typeIs ?_))
  show wpAny _ _ (pure (d, Value.ref b, none)) _ _ s
  refine wpAny_pure ?_
  have hpart : (keyPart (Value.ref b)).isSome = false := rfl
  simp only [hpart, Bool.false_eq_true, if_false]
  refine wpAny_bind (wpAny_dictEntries ho hdat (wpAny_bind (wpAny_pure ?_)))
  have hem : es.isEmpty = false := by
    cases xs with
    | nil => cases hp
    | cons y ys => cases hz : es.isEmpty with
      | false => rfl
      | true => simp at hz; rw [hz] at hes; simp at hes
  rw [hem]
  simp only [Bool.false_eq_true, if_false]
  refine wpAny_bind (DT.takeH hu hkey hm hsz (fun hno => by rw [hno] at hp; cases hp) fun p' e hp' hev h' hm' hs' => ?_)
  obtain rfl : p' = p := by rw [hp'] at hp; exact Option.some.inj hp
  simp only [Option.isNone_some, Bool.false_eq_true, if_false]
  exact wpAny_bind (wpAny_letGo (wpAny_pure ⟨e.val, rfl, by rw [hev]; exact hq h' _ hm' hs'⟩))
end
def rPop1 : V → List V → Hp → VK → Prop := fun x xs H Q => ∃ (a : Addr) (kvs : List (List L2.Key × V)) (k : List L2.Key) (b : Addr) (v : V), x = .ref a ∧ xs = [.ref b] ∧ H a = some (.dT kvs) ∧ H b = some (.tup (k.map kV)) ∧ valV kvs k = some v ∧ Q v (upd H a (.dT (dropK kvs k)))
theorem mt_pop1 {X : Cx} (hu : X.A.units + 1 < cLine) : MtR X "dict.pop" rPop1 := by
  intro pins s σ H x xs v us Q I rx rxs h
  obtain ⟨a, kvs, k, b, v0, rfl, rfl, ha, hb, ev, q⟩ := h
  cases rx
  match us, rxs with
  | [u], .cons ru .nil =>
    cases ru
    obtain ⟨z, hd, xs', rel, dd⟩ := dt_of I.hok ha
    have r := rel.val k
    rw [ev] at r
    obtain ⟨p, hp, rv⟩ : ∃ p, atKey xs' k = some p ∧ RelV v0 p.2 := by
      cases e : atKey xs' k with
      | none => rw [e] at r; exact (show False from r).elim
      | some p => rw [e] at r; exact ⟨p, rfl, r⟩
    refine call_meetsIn PySem.F.slot_dict_pop dd.typeIs PySem.F.entry_dict_pop (PySem.F.args_dict_pop_2 _ _) (pop_there (knd := tupleKind (mixKind X.prog X.w)) (k := k)) ⟨xs', p, tupleKind_room_in1 hu, key_of I.hok hb, dd, by rw [← Paired.length rel]; exact z, hp, fun h' tk dd' hs => ?_⟩
    obtain ⟨o, es, ep, hq, h2, h3, h4, _, h5⟩ := dd'
    have I2 : Inv X pins σ (upd H a (.dT (dropK kvs k))) { s with heap := h', toks := tk } :=
      d_write I (by rw [ha]; exact True.intro) hs ⟨o, hq⟩ ⟨Nat.le_trans (dropK_le kvs k) z, hd, _, (L2.DX.KT_drop k rel).keeps (fun c ys ec => (by rw [upd_ne (ne_of ec ha (fun z => nomatch z))]; exact ec)), o, es, ep, hq, h2, h3, h4, h5⟩
    exact ⟨v0, _, I2, rv, q⟩
end Sg.Fe

set_option Elab.async false
set_option linter.all false
set_option maxRecDepth 100000
set_option maxHeartbeats 4000000
namespace Sg.Fe
open PySem PySem.Spec PyProof.Rows L2
/-! ### what a command does to the world -/
theorem kvs_drop (ks : List (Int × Int)) (h : Int) : dropK (kvsOf ks) (Sum.inl h) = kvsOf (outR ks h) := by
  unfold dropK kvsOf outR
  rw [List.filter_map]
  congr 1
  refine List.filter_congr fun x _ => ?_
  show decide ((Sum.inl x.1 : Key) ≠ Sum.inl h) = !decide (x.1 = h)
  rw [Bool.eq_iff_iff]; simp
theorem out_nd {ks : List (Int × Int)} {h : Int} (nd : KNd ks) : KNd (outR ks h) := List.Nodup.sublist (List.Sublist.map _ List.filter_sublist) nd
theorem out_le {ks : List (Int × Int)} {h : Int} : (outR ks h).length ≤ ks.length + 1 := Nat.le_trans (List.length_filter_le _ _) (Nat.le_succ _)
structure Sep (sw : Sw) : Prop where
  lc : sw.ls ≠ sw.ca
  lk : sw.ls ≠ sw.ka
  ck : sw.ca ≠ sw.ka
structure Step (K : PySem.W.Frag) (sw : Sw) (H H' : Hp) (ks' : List (Int × Int)) (hd' : Option (Int × Str)) : Prop where
  nd : KNd ks'
  ln : ks'.length ≤ sw.ks.length + 1
  inn : SwIn K H' { sw with ks := ks', hd := hd' }
  of : Off [sw.ls, sw.ka] H H'
  tk : TK H H'
def spLChF (K : PySem.W.Frag) : Sp := fun vs H Q _ => ∃ (sw : Sw) (h : Int) (c : Addr) (cm : Cm) (o : Int), vs = [.ref sw.ls, .int h, .ref c, .int o] ∧ SwIn K H sw ∧ Sep sw ∧ KNd sw.ks ∧ sw.ks.length ≤ 900 ∧ CmdAt K H c cm ∧ okC cm ∧
  (cmS cm = "register" → look sw.ks h = none) ∧ (cmS cm = "leave" → ¬ look sw.ks h = none) ∧ (∀ n v, cm = .preempt n v → ¬ look sw.ks v = none) ∧ ∀ ks' hd' H', Step K sw H H' ks' hd' → Q .non H'
section
variable {K : PySem.W.Frag} {H : Hp} {sw : Sw}
theorem Step.keys {ks' : List (Int × Int)} (SW : SwIn K H sw) (S : Sep sw) (nd : KNd ks') (ln : ks'.length ≤ sw.ks.length + 1) : Step K sw H (upd H sw.ka (.dK (kvsOf ks'))) ks' sw.hd := by
  obtain ⟨hv, hls, hh, hca, hka⟩ := SW
  have t : TK H (upd H sw.ka (.dK (kvsOf ks'))) := tk_upd hka (fun _ z => nomatch z) (fun _ _ z => nomatch z)
  exact ⟨nd, ln, ⟨hv, by rw [show (upd H sw.ka (.dK (kvsOf ks'))) sw.ls = H sw.ls from upd_ne S.lk]; exact hls, hh.tk t, CellAt.at hca fun o ho => by rw [upd_ne S.ck]; exact ho, upd_same⟩, Off.upd (by simp), t⟩
theorem Step.hold {H0 : Hp} {ks' : List (Int × Int)} {hd0 hd' : Option (Int × Str)} {hv' : V} (St : Step K sw H0 H ks' hd0) (S : Sep sw) (hh : HoldV K H hv' hd') : Step K sw H0 (upd H sw.ls (.lst [.int sw.z, .ref sw.ca, .ref sw.ka, hv'])) ks' hd' := by
  obtain ⟨nd, ln, ⟨hv, hls, _, hca, hka⟩, of, tk⟩ := St
  have t : TK H (upd H sw.ls (.lst [.int sw.z, .ref sw.ca, .ref sw.ka, hv'])) := tk_upd hls (fun _ z => nomatch z) (fun _ _ z => nomatch z)
  exact ⟨nd, ln, ⟨hv', upd_same, hh.tk t, CellAt.at hca fun o ho => by rw [upd_ne (fun z => S.lc z.symm)]; exact ho, by rw [show (upd H sw.ls (.lst [.int sw.z, .ref sw.ca, .ref sw.ka, hv'])) sw.ka = H sw.ka from upd_ne (fun z => S.lk z.symm)]; exact hka⟩, of.trans (Off.upd (by simp)), tk.trans t⟩
theorem Step.refl (SW : SwIn K H sw) (nd : KNd sw.ks) : Step K sw H H sw.ks sw.hd := ⟨nd, Nat.le_succ _, SW, fun _ _ e _ => e, ⟨fun _ _ e => e, fun _ _ _ e => e⟩⟩
theorem Step.same {H0 H' : Hp} {ks' : List (Int × Int)} {hd' : Option (Int × Str)} (St : Step K sw H0 H ks' hd') (s : Same H H') : Step K sw H0 H' ks' hd' := ⟨St.nd, St.ln, St.inn.same s, St.of.trans (fun b o e _ => s _ _ e), St.tk.trans (TK.of s)⟩
theorem hold_none : HoldV K H .non none := rfl
end
section
variable {P : Program} {wd : World} {K : PySem.W.Frag} {mg : Str → Option Value} {base : Heap} {f fF : Addr} {fd fdF : FuncData}
theorem scLChF : FnScope ["space", "host", "command", "order", "keys", "name"] ["space", "host", "command", "order"] (defScope sLChF) := ⟨rfl, rfl, rfl, by decide +kernel, rfl, by decide +kernel, by decide +kernel⟩
theorem ok_lchf (F : Fun K "_law_change_fence" "_law_change_fence" sLChF f fd) : FnOk P wd K mg base CX0 1 f fd ["space", "host", "command", "order"] (spLChF K) := by
  refine F.ok scLChF (fun vs H Q E h => ?_) (fun cdv A outer s H vs Q E hr h => ?_)
  · obtain ⟨sw, h, c, cm, o, rfl, _⟩ := h
    rfl
  · obtain ⟨sw, h, c, cm, o, rfl, SW, S, nd, ln, hc, oc, p1, p2, p3, q⟩ := h
    refine ⟨_, (pss_cons (ps_set (i := 4) scLChF.nd rfl (Or.inl rfl) (pe_ix ix_list (pv 0) pe_int (fun _ _ => rfl)))
      (pss_cons (ps_set (i := 5) scLChF.nd rfl (Or.inl rfl) (pe_ix ix_tup (pv 2) pe_int (fun _ _ => rfl)))
      (pss_one (ps_if (pt_cmpR op_eq (pv 5) pe_str (nomark _))
      (pss_one (ps_dput (hu_of hr) (pv 4) (pv 1) (pv 3) rfl)) (pss_one (ps_if (pt_cmpR op_eq (pv 5) pe_str (nomark _))
      (pss_cons (ps_expr (pe_dpop1 (pv 4) (pv 1) ⟨rfl, rfl, rfl, rfl⟩))
      (pss_one (ps_if (PW.pt (pw_and (pt_cmpR op_notN (pe_ix ix_list (pv 0) pe_int (fun _ _ => rfl)) pe_non (nomark _)) (pw_and1 (pt_cmpR op_eq (pe_ix ix_tup (pe_ix ix_list (pv 0) pe_int (fun _ _ => rfl)) pe_int (fun _ _ => rfl)) (pv 1) (nomark _)))))
      (pss_one (ps_asg pe_non (pg_sub (pv 0) pe_int set_list))) pss_nil))) (pss_one (ps_if (pt_cmpR op_eq (pv 5) pe_str (nomark _))
      (pss_one (ps_asg (pe_tup (pa_cons (pv 1) (pa_cons (pe_ix ix_tup (pv 2) pe_int (fun _ _ => rfl)) pa_nil))) (pg_sub (pv 0) pe_int set_list))) (pss_one (ps_if (pt_cmpR op_eq (pv 5) pe_str (nomark _))
      (pss_one (ps_asg pe_non (pg_sub (pv 0) pe_int set_list))) (pss_one (ps_if (pt_cmpR op_eq (pv 5) pe_str (nomark _))
      (pss_cons (ps_expr (pe_dpop1 (pv 4) (pe_ix ix_tup (pv 2) pe_int (fun _ _ => rfl)) ⟨rfl, rfl, rfl, rfl⟩))
      (pss_one (ps_if (PW.pt (pw_and (pt_cmpR op_notN (pe_ix ix_list (pv 0) pe_int (fun _ _ => rfl)) pe_non (nomark _)) (pw_and1 (pt_cmpR op_eq (pe_ix ix_tup (pe_ix ix_list (pv 0) pe_int (fun _ _ => rfl)) pe_int (fun _ _ => rfl)) (pe_ix ix_tup (pv 2) pe_int (fun _ _ => rfl)) (nomark _)))))
      (pss_one (ps_asg (pe_tup (pa_cons (pv 1) (pa_cons (pe_ix ix_tup (pe_ix ix_list (pv 0) pe_int (fun _ _ => rfl)) pe_int (fun _ _ => rfl)) pa_nil))) (pg_sub (pv 0) pe_int set_list))) pss_nil))) pss_nil)))))))))))), ?_⟩
    obtain ⟨hv, hls, hh, hca, hka⟩ := id SW
    have St0 := Step.refl SW nd
    refine ⟨_, rfl, sw.ls, _, _, _, rfl, rfl, SqL.of hls, atI_nat (j := 2) rfl, ?_⟩
    refine ⟨_, rfl, c, _, _, _, rfl, rfl, hc, atI_nat (j := 0) rfl, ?_⟩
    -- the holder goes, or it stays: what stands behind keys.pop
    have tail : ∀ (H1 : Hp) (ks' : List (Int × Int)) (who : Int) (tw : TE) (tv : TE), Step K sw H H1 ks' sw.hd →
        (∀ R : VK, R (.int who) H1 → tw [some (.ref sw.ls), some (.int h), some (.ref c), some (.int o), some (.ref sw.ka), some (.str (cmS cm))] H1 R) →
        (∀ (wy : Str) (hv : V) (R : VK), HoldV K H1 hv (some (who, wy)) → H1 sw.ls = some (.lst [.int sw.z, .ref sw.ca, .ref sw.ka, hv]) → (∀ v H2, Same H1 H2 → (∃ hd', HoldV K H2 v hd') → R v H2) → tv [some (.ref sw.ls), some (.int h), some (.ref c), some (.int o), some (.ref sw.ka), some (.str (cmS cm))] H1 R) →
        tIfS (tAnd (tTest (tOp (fun x y H Q => y = V.non ∧ Q (V.bl !decide (x = V.non)) H) (tOp (rIxL K) (tVar 0) (tC (.int 3))) (tC .non))) (tTest (tOp rEq (tOp (rIxT K) (tOp (rIxL K) (tVar 0) (tC (.int 3))) (tC (.int 0))) tw))) (tAsg tv (gSub (tVar 0) (tC (.int 3)) rSetL)) tNext { nx := fun _ H' => Q .non H', rt := Q } [some (.ref sw.ls), some (.int h), some (.ref c), some (.int o), some (.ref sw.ka), some (.str (cmS cm))] H1 := fun H1 ks' who tw tv St htw htv => by
      obtain ⟨hv1, hls1, hh1, _⟩ := St.inn
      have hls1 : H1 sw.ls = some (.lst [.int sw.z, .ref sw.ca, .ref sw.ka, hv1]) := hls1
      have hh1 : HoldV K H1 hv1 sw.hd := hh1
      refine ⟨_, rfl, sw.ls, _, _, _, rfl, rfl, SqL.of hls1, atI_nat (j := 3) rfl, rfl, _, rfl, ?_⟩
      rw [hold_non hh1]
      cases ehd : sw.hd with
      | none => exact iteF (iteF (q _ _ _ St))
      | some x =>
        obtain ⟨g, wy⟩ := x
        rw [ehd] at hh1
        obtain ⟨t, et, ht, wok⟩ := (show ∃ q, hv1 = .ref q ∧ SqT K H1 q [.int g, .str wy] ∧ PyData.strOk wy = true from id hh1)
        refine iteT ⟨_, rfl, sw.ls, _, _, _, rfl, rfl, SqL.of hls1, atI_nat (j := 3) rfl, t, _, _, _, et, rfl, ht, atI_nat (j := 0) rfl, htw _ ⟨rfl, _, rfl, ?_⟩⟩
        by_cases z : g = who
        · subst z
          refine chooseT (decide_eq_true rfl) (htv wy hv1 _ hh1 hls1 fun v H2 s2 ⟨hd', hv2⟩ => ?_)
          exact ⟨_, rfl, sw.ls, _, _, 3, rfl, rfl, s2 _ _ hls1, rfl, q _ _ _ ((St.same s2).hold S hv2)⟩
        · exact chooseF (decide_eq_false (fun y => z (by injection y))) (q _ _ _ St)
    refine ⟨_, rfl, rfl, _, rfl, ?_⟩
    by_cases e1 : cmS cm = "register"
    · refine chooseT (decide_eq_true (by rw [e1])) ?_
      have pn : putK (kvsOf sw.ks) (Sum.inl h) (.int o) = kvsOf (sw.ks ++ [(h, o)]) := by
        rw [put_new (by rw [val_look, p1 e1]; rfl)]
        simp [kvsOf]
      refine ⟨_, rfl, _, rfl, _, rfl, sw.ka, _, rfl, DPut.k (k := Sum.inl h) hka (small1000 (by simp [kvsOf]; omega)), ?_⟩
      rw [pn]
      refine q _ _ _ (Step.keys SW S ?_ (by simp))
      unfold KNd
      rw [List.map_append]
      exact List.nodup_append.mpr ⟨nd, by simp, fun x hx y hy => by
        have := look_none.mp (p1 e1)
        simp at hy; subst hy
        intro z; subst z; exact this hx⟩
    refine chooseF (str_eqF e1) ⟨_, rfl, rfl, _, rfl, ?_⟩
    by_cases e2 : cmS cm = "leave"
    · refine chooseT (decide_eq_true (by rw [e2])) ?_
      obtain ⟨v, hv'⟩ := Option.ne_none_iff_exists'.mp (p2 e2)
      refine ⟨_, rfl, sw.ka, rfl, .inl ⟨_, .inl hka⟩, _, rfl, kvsOf sw.ks, Sum.inl h, .int v, hka, rfl, by rw [val_look, hv']; rfl, ?_⟩
      rw [kvs_drop]
      refine tail _ _ h _ _ (Step.keys SW S (out_nd nd) out_le) (fun R r => ⟨_, rfl, r⟩) (fun wy hv R _ _ r => r .non _ (Same.refl _) ⟨none, rfl⟩)
    refine chooseF (str_eqF e2) ⟨_, rfl, rfl, _, rfl, ?_⟩
    by_cases e3 : cmS cm = "reserve"
    · refine chooseT (decide_eq_true (by rw [e3])) ?_
      obtain ⟨n', wy, rfl⟩ := cm_reserve e3
      refine ⟨_, rfl, _, rfl, c, _, _, _, rfl, rfl, hc, atI_nat (j := 2) rfl, by show 2 ≤ sizeLine; decide, fun t ht => ?_⟩
      have s1 := same_new (o := .tup [V.int h, V.str wy]) ht
      exact ⟨_, rfl, sw.ls, _, _, 3, rfl, rfl, s1 _ _ hls, rfl, q _ _ _ ((St0.same s1).hold S (hd' := some (h, wy)) ⟨t, rfl, SqT.of upd_same, oc⟩)⟩
    refine chooseF (str_eqF e3) ⟨_, rfl, rfl, _, rfl, ?_⟩
    by_cases e4 : cmS cm = "release"
    · refine chooseT (decide_eq_true (by rw [e4])) ?_
      exact ⟨_, rfl, sw.ls, _, _, 3, rfl, rfl, hls, rfl, q _ _ _ (St0.hold S (hd' := none) rfl)⟩
    refine chooseF (str_eqF e4) ⟨_, rfl, rfl, _, rfl, ?_⟩
    by_cases e5 : cmS cm = "preempt"
    · refine chooseT (decide_eq_true (by rw [e5])) ?_
      obtain ⟨n', v, rfl⟩ := cm_preempt e5
      obtain ⟨k, hk⟩ := Option.ne_none_iff_exists'.mp (p3 n' v rfl)
      refine ⟨_, rfl, sw.ka, rfl, .inl ⟨_, .inl hka⟩, _, rfl, c, _, _, _, rfl, rfl, hc, atI_nat (j := 2) rfl, kvsOf sw.ks, Sum.inl v, .int k, hka, rfl, by rw [val_look, hk]; rfl, ?_⟩
      rw [kvs_drop]
      have St1 := Step.keys SW S (out_nd (h := v) nd) out_le
      have hc1 := sqT_tk hc St1.tk
      refine tail _ _ v _ _ St1 (fun R r => ⟨_, rfl, c, _, _, _, rfl, rfl, hc1, atI_nat (j := 2) rfl, r⟩) (fun wy hv R hh1 hls1 r => ?_)
      obtain ⟨t, et, ht, wok⟩ := (show ∃ q, hv = .ref q ∧ SqT K _ q [.int v, .str wy] ∧ PyData.strOk wy = true from hh1)
      refine ⟨_, rfl, _, rfl, sw.ls, _, _, _, rfl, rfl, SqL.of hls1, atI_nat (j := 3) rfl, t, _, _, _, et, rfl, ht, atI_nat (j := 1) rfl, by show 2 ≤ sizeLine; decide, fun t2 ht2 => ?_⟩
      exact r _ _ (same_new ht2) ⟨some (h, wy), t2, rfl, SqT.of upd_same, wok⟩
    · exact chooseF (str_eqF e5) (q _ _ _ St0)
end
end Sg.Fe

set_option Elab.async false
set_option linter.all false
set_option maxRecDepth 100000
set_option maxHeartbeats 4000000
namespace Sg.Fe
open PySem PySem.Spec PyProof.Rows L2
/-! ### the world, changed -/
def setS (l : List (Int × Sw)) (n : Int) (s : Sw) : List (Int × Sw) := l.map fun p => if p.1 = n then (n, s) else p
def setW (W : Wo) (n : Int) (s : Sw) : Wo := { W with sp := setS W.sp n s }
theorem flat_disj : ∀ {l : List (Int × Sw)}, (l.flatMap fun p => ownS p.2).Nodup → ∀ {p q : Int × Sw}, p ∈ l → q ∈ l → p.1 ≠ q.1 → ∀ {b : Addr}, b ∈ ownS p.2 → b ∉ ownS q.2
  | [], _, _, _, h, _, _, _, _ => by cases h
  | x :: l, nd, p, q, hp, hq, ne, b, hb => by
    rw [List.flatMap_cons] at nd
    obtain ⟨n1, n2, n3⟩ := List.nodup_append.mp nd
    rcases List.mem_cons.mp hp with e1 | hp'
    · rcases List.mem_cons.mp hq with e2 | hq'
      · exact absurd (by rw [e1, e2]) ne
      · intro hc
        exact n3 b (e1 ▸ hb) b (List.mem_flatMap.mpr ⟨q, hq', hc⟩) rfl
    · rcases List.mem_cons.mp hq with e2 | hq'
      · intro hc
        exact n3 b (e2 ▸ hc) b (List.mem_flatMap.mpr ⟨p, hp', hb⟩) rfl
      · exact flat_disj n2 hp' hq' ne hb
theorem flatMap_eq {α β : Type} {f g : α → List β} : ∀ {l : List α}, (∀ p ∈ l, f p = g p) → l.flatMap f = l.flatMap g
  | [], _ => rfl
  | x :: l, h => by rw [List.flatMap_cons, List.flatMap_cons, h x List.mem_cons_self, flatMap_eq fun p hp => h p (List.mem_cons_of_mem _ hp)]
theorem key_eq {l : List (Int × Sw)} (nd : (l.map (·.1)).Nodup) {n : Int} {s t : Sw} (h1 : (n, s) ∈ l) (h2 : (n, t) ∈ l) : s = t := by
  have a := lookI_of nd h1
  have b := lookI_of nd h2
  rw [a] at b; exact Option.some.inj b
theorem setS_keys {l : List (Int × Sw)} {n : Int} {s : Sw} : (setS l n s).map (·.1) = l.map (·.1) := by
  unfold setS
  rw [List.map_map]
  refine List.map_congr_left fun p _ => ?_
  by_cases e : p.1 = n
  · simp [e]
  · simp [e]
theorem setS_mem {l : List (Int × Sw)} {n : Int} {s : Sw} {p : Int × Sw} (h : p ∈ setS l n s) : p = (n, s) ∨ (p ∈ l ∧ p.1 ≠ n) := by
  obtain ⟨q, hq, e⟩ := List.mem_map.mp h
  by_cases z : q.1 = n
  · rw [if_pos z] at e; exact .inl e.symm
  · rw [if_neg z] at e; subst e; exact .inr ⟨hq, z⟩
theorem setS_own {l : List (Int × Sw)} {n : Int} {s t : Sw} (nd : (l.map (·.1)).Nodup) (hs : (n, s) ∈ l) (e : ownS t = ownS s) : ((setS l n t).flatMap fun p => ownS p.2) = l.flatMap fun p => ownS p.2 := by
  unfold setS
  rw [List.flatMap_map]
  refine flatMap_eq fun p hp => ?_
  by_cases z : p.1 = n
  · rw [if_pos z]
    obtain ⟨a, b⟩ := p
    cases z
    rw [key_eq nd hp hs, e]
  · rw [if_neg z]
theorem setS_pr {K : PySem.W.Frag} {H : Hp} {n : Int} {s t : Sw} : ∀ {kvs : List (Key × V)} {l : List (Int × Sw)}, (l.map (·.1)).Nodup → (n, s) ∈ l → t.ls = s.ls → Paired (fun (p : Key × V) (q : Int × Sw) => p.1 = eI q.1 ∧ p.2 = .ref q.2.ls) kvs l → Paired (fun (p : Key × V) (q : Int × Sw) => p.1 = eI q.1 ∧ p.2 = .ref q.2.ls) kvs (setS l n t) := by
  intro kvs l nd hs e pr
  have h2 : ∀ q ∈ l, q.1 = n → q.2 = s := fun q hq z => by
    obtain ⟨a, b⟩ := q
    cases z
    exact key_eq nd hq hs
  clear nd hs
  induction pr with
  | nil => exact .nil
  | cons r t' ih =>
    rename_i a b la lb
    refine .cons ?_ (ih fun q hq => h2 q (List.mem_cons_of_mem _ hq))
    show a.1 = eI (if b.1 = n then (n, t) else b).1 ∧ a.2 = V.ref (if b.1 = n then (n, t) else b).2.ls
    by_cases z : b.1 = n
    · rw [if_pos z]
      refine ⟨by rw [r.1, z], ?_⟩
      rw [r.2, h2 b List.mem_cons_self z]
      show V.ref s.ls = V.ref t.ls
      rw [e]
    · rw [if_neg z]; exact r
section
variable {K : PySem.W.Frag} {H H' : Hp} {w : Addr} {W : Wo} {n : Nat}
structure Nds (w : Addr) (W : Wo) : Prop where
  wS : w ≠ W.S
  wN : w ≠ W.N
  SN : W.S ≠ W.N
  wp : ∀ p ∈ W.sp, ∀ b ∈ ownS p.2, b ≠ w ∧ b ≠ W.S ∧ b ≠ W.N
  wq : ∀ p ∈ W.sn, p.2.1 ≠ w ∧ p.2.1 ≠ W.S ∧ p.2.1 ≠ W.N
  fl : (W.sp.flatMap fun p => ownS p.2).Nodup
  sn : (W.sn.map fun p => p.2.1).Nodup
  dj : ∀ p ∈ W.sp, ∀ b ∈ ownS p.2, ∀ q ∈ W.sn, b ≠ q.2.1
theorem nds (nd : (own w W).Nodup) : Nds w W := by
  have nd1 : w ∉ W.S :: W.N :: ((W.sp.flatMap fun p => ownS p.2) ++ W.sn.map fun p => p.2.1) ∧ (W.S :: W.N :: ((W.sp.flatMap fun p => ownS p.2) ++ W.sn.map fun p => p.2.1)).Nodup := List.nodup_cons.mp nd
  have nd2 := List.nodup_cons.mp nd1.2
  have nd3 := List.nodup_cons.mp nd2.2
  obtain ⟨a, b, c⟩ := List.nodup_append.mp nd3.2
  have mp : ∀ p ∈ W.sp, ∀ b ∈ ownS p.2, b ∈ (W.sp.flatMap fun p => ownS p.2) := fun p hp b hb => List.mem_flatMap.mpr ⟨p, hp, hb⟩
  have mq : ∀ p ∈ W.sn, p.2.1 ∈ W.sn.map fun p => p.2.1 := fun p hp => List.mem_map.mpr ⟨p, hp, rfl⟩
  refine ⟨fun z => nd1.1 (z ▸ List.mem_cons_self), fun z => nd1.1 (z ▸ List.mem_cons_of_mem _ List.mem_cons_self), fun z => nd2.1 (z ▸ List.mem_cons_self), fun p hp b hb => ⟨fun z => ?_, fun z => ?_, fun z => ?_⟩, fun p hp => ⟨fun z => ?_, fun z => ?_, fun z => ?_⟩, a, b, fun p hp b hb q hq => c b (mp p hp b hb) _ (mq q hq)⟩
  · exact nd1.1 (z ▸ List.mem_cons_of_mem _ (List.mem_cons_of_mem _ (List.mem_append_left _ (mp p hp b hb))))
  · exact nd2.1 (z ▸ List.mem_cons_of_mem _ (List.mem_append_left _ (mp p hp b hb)))
  · exact nd3.1 (z ▸ List.mem_append_left _ (mp p hp b hb))
  · exact nd1.1 (z ▸ List.mem_cons_of_mem _ (List.mem_cons_of_mem _ (List.mem_append_right _ (mq p hp))))
  · exact nd2.1 (z ▸ List.mem_cons_of_mem _ (List.mem_append_right _ (mq p hp)))
  · exact nd3.1 (z ▸ List.mem_append_right _ (mq p hp))
theorem WoAt.setO (h : WoAt K H w W) (nd : (own w W).Nodup) (o' : Int) : WoAt K (upd H w (.lst [.ref W.S, .ref W.N, .int o'])) w { W with o := o' } := by
  have N := nds nd
  have t : TK H (upd H w (.lst [.ref W.S, .ref W.N, .int o'])) := tk_upd h.top (fun _ z => nomatch z) (fun _ _ z => nomatch z)
  have e : ∀ b, b ≠ w → ∀ o, H b = Option.some o → (upd H w (.lst [.ref W.S, .ref W.N, .int o'])) b = Option.some o := fun b nb o ho => by rw [upd_ne nb]; exact ho
  exact ⟨⟨upd_same, fun p hp => (h.ins p hp).at t fun b hb => e b (N.wp p hp b hb).1, fun p hp => CellAt.at (h.cel p hp) (e _ (N.wq p hp).1)⟩, TabAt.at h.tsp (e _ (fun z => N.wS z.symm)), TabAt.at h.tsn (e _ (fun z => N.wN z.symm))⟩
theorem WoAt.space (h : WoAt K H w W) (nd : (own w W).Nodup) {m : Int} {s s' : Sw} (hs : (m, s) ∈ W.sp) (ea : ownS s' = ownS s) (of : Off (ownS s) H H') (tk : TK H H') (si : SwIn K H' s') : WoAt K H' w (setW W m s') ∧ own w (setW W m s') = own w W := by
  have N := nds nd
  obtain ⟨kvs, hS, pr, nk⟩ := h.tsp
  have eo : own w (setW W m s') = own w W := by
    show w :: W.S :: W.N :: (((setS W.sp m s').flatMap fun p => ownS p.2) ++ W.sn.map fun p => p.2.1) = _
    rw [setS_own nk hs ea]; rfl
  have els : s'.ls = s.ls := by
    have := congrArg List.head? ea
    exact Option.some.inj this
  refine ⟨⟨⟨of _ _ h.top (fun m' => (N.wp _ hs _ m').1 rfl), fun p hp => ?_, fun p hp => CellAt.at (h.cel p hp) fun o ho => of _ _ ho fun m' => N.dj _ hs _ m' p hp rfl⟩, ⟨kvs, of _ _ hS (fun m' => (N.wp _ hs _ m').2.1 rfl), setS_pr (K := K) (H := H) nk hs els pr, by rw [show (setW W m s').sp = setS W.sp m s' from rfl, setS_keys]; exact nk⟩, TabAt.at h.tsn fun o ho => of _ _ ho fun m' => (N.wp _ hs _ m').2.2 rfl⟩, eo⟩
  rcases setS_mem hp with rfl | ⟨hp, ne⟩
  · exact si
  · exact (h.ins p hp).at tk fun b hb o ho => of _ _ ho fun hb' => flat_disj N.fl hp hs ne hb hb'
theorem WoOk.space (k : WoOk n w W) {m : Int} {s s' : Sw} (nk : (W.sp.map (·.1)).Nodup) (hs : (m, s) ∈ W.sp) (ea : ownS s' = ownS s) (kn : KNd s'.ks) (cl : s'.cs.length ≤ s.cs.length + 1) (kl : s'.ks.length ≤ s.ks.length + 1) : WoOk (n + 1) w (setW W m s') := by
  have eo : own w (setW W m s') = own w W := by
    show w :: W.S :: W.N :: (((setS W.sp m s').flatMap fun p => ownS p.2) ++ W.sn.map fun p => p.2.1) = _
    rw [setS_own nk hs ea]; rfl
  have h1 := k.css _ hs
  have h2 := k.kss _ hs
  have ln : (setS W.sp m s').length = W.sp.length := by unfold setS; rw [List.length_map]
  refine ⟨by rw [eo]; exact k.nd, fun p hp => ?_, k.om, by show (setS W.sp m s').length ≤ _; have := k.sps; omega, Nat.le_succ_of_le k.sns, fun p hp => ?_, fun p hp => ?_, fun p hp => Nat.le_succ_of_le (k.cns p hp)⟩
  · rcases setS_mem hp with rfl | ⟨hp, _⟩
    · exact kn
    · exact k.kn p hp
  · rcases setS_mem hp with rfl | ⟨hp, _⟩
    · exact Nat.le_trans cl (Nat.succ_le_succ h1)
    · exact Nat.le_succ_of_le (k.css p hp)
  · rcases setS_mem hp with rfl | ⟨hp, _⟩
    · exact Nat.le_trans kl (Nat.succ_le_succ h2)
    · exact Nat.le_succ_of_le (k.kss p hp)
end
end Sg.Fe

set_option Elab.async false
set_option linter.all false
set_option maxRecDepth 100000
set_option maxHeartbeats 4000000
namespace Sg.Fe
open PySem PySem.Spec PyProof.Rows L2
section
variable {K : PySem.W.Frag} {H H' : Hp} {w : Addr} {W : Wo} {n : Nat}
theorem own_sub {l : List (Int × Sw)} {k : List ((Int × Int) × Addr × Cells)} (h1 : List.Sublist l W.sp) (h2 : List.Sublist k W.sn) : List.Sublist (own w { W with sp := l, sn := k }) (own w W) := by
  refine List.Sublist.cons_cons _ (List.Sublist.cons_cons _ (List.Sublist.cons_cons _ (List.Sublist.append ?_ (h2.map _))))
  show List.Sublist (l.flatMap fun p => ownS p.2) (W.sp.flatMap fun p => ownS p.2)
  clear h2
  generalize W.sp = m at h1
  induction h1 with
  | slnil => exact List.Sublist.slnil
  | cons a _ ih => rw [List.flatMap_cons]; exact ih.trans (List.sublist_append_right _ _)
  | cons_cons a _ ih => rw [List.flatMap_cons, List.flatMap_cons]; exact List.Sublist.append (List.Sublist.refl _) ih
theorem own_make {m : Int} {s : Sw} : (own w { W with sp := W.sp ++ [(m, s)] }).Perm (ownS s ++ own w W) := by
  refine List.perm_iff_count.mpr fun a => ?_
  simp [own, List.count_append, List.count_cons, List.flatMap_append]
  omega
theorem own_snap {k : (Int × Int) × Addr × Cells} : (own w { W with sn := W.sn ++ [k] }).Perm (k.2.1 :: own w W) := by
  refine List.perm_iff_count.mpr fun a => ?_
  simp [own, List.count_append, List.count_cons]
  omega
theorem own_new (h : WoAt K H w W) {xs : List Addr} (hx : ∀ b ∈ xs, H b = none) (nx : xs.Nodup) (nd : (own w W).Nodup) : (xs ++ own w W).Nodup := by
  refine List.nodup_append.mpr ⟨nx, nd, fun a ha b hb e => ?_⟩
  obtain ⟨o, ho⟩ := h.some b hb
  rw [← e, hx a ha] at ho; cases ho
/-- a space is made -/
theorem woMake (h : WoAt K H w W) (k : WoOk n w W) {m : Int} {s : Sw} {kvs : List (Key × V)} (hno : lookI W.sp m = none) (hx : ∀ b ∈ ownS s, H b = none) (nx : (ownS s).Nodup) (of : Off [W.S] H H') (tk : TK H H')
    (hk : H W.S = some (.dK kvs)) (hS : H' W.S = some (.dK (kvs ++ [(eI m, .ref s.ls)]))) (si : SwIn K H' s) (e1 : s.cs = []) (e2 : s.ks = []) :
    WoAt K H' w { W with sp := W.sp ++ [(m, s)] } ∧ WoOk (n + 1) w { W with sp := W.sp ++ [(m, s)] } ∧ ∀ b ∈ own w { W with sp := W.sp ++ [(m, s)] }, b ∈ own w W ∨ H b = none := by
  have N := nds k.nd
  obtain ⟨kvs', hS0, pr, nk⟩ := h.tsp
  obtain rfl : kvs' = kvs := by
    have hS0 : H W.S = some (.dK kvs') := hS0
    rw [hS0] at hk; cases hk; rfl
  have e : ∀ b, b ≠ W.S → ∀ o, H b = some o → H' b = some o := fun b nb o ho => of _ _ ho (by simpa using nb)
  have pm := own_make (w := w) (W := W) (m := m) (s := s)
  have nn : m ∉ W.sp.map (·.1) := fun hm => by
    obtain ⟨q, hq, eq⟩ := List.mem_map.mp hm
    obtain ⟨a, b⟩ := q
    cases eq
    rw [lookI_of nk hq] at hno; cases hno
  refine ⟨⟨⟨e _ N.wS _ h.top, fun p hp => ?_, fun p hp => CellAt.at (h.cel p hp) (e _ (N.wq p hp).2.1)⟩, ⟨_, hS, pr_snoc (R := fun (p : Key × V) (q : Int × Sw) => p.1 = eI q.1 ∧ p.2 = .ref q.2.ls) ⟨rfl, rfl⟩ pr, ?_⟩, TabAt.at h.tsn (e _ (fun z => N.SN z.symm))⟩, ⟨?_, fun p hp => ?_, k.om, ?_, Nat.le_succ_of_le k.sns, fun p hp => ?_, fun p hp => ?_, fun p hp => Nat.le_succ_of_le (k.cns p hp)⟩, fun b hb => ?_⟩
  · rcases List.mem_append.mp hp with hp | hp
    · exact (h.ins p hp).at tk fun b hb => e b (N.wp p hp b hb).2.1
    · cases List.mem_singleton.mp hp; exact si
  · rw [List.map_append]
    exact List.nodup_append.mpr ⟨nk, by simp, fun x hx' y hy z => by simp at hy; subst hy; subst z; exact nn hx'⟩
  · exact pm.nodup_iff.mpr (own_new h hx nx k.nd)
  · rcases List.mem_append.mp hp with hp | hp
    · exact k.kn p hp
    · cases List.mem_singleton.mp hp
      show KNd s.ks
      rw [e2]; exact List.nodup_nil
  · rw [List.length_append]; exact Nat.succ_le_succ k.sps
  · rcases List.mem_append.mp hp with hp | hp
    · exact Nat.le_succ_of_le (k.css p hp)
    · cases List.mem_singleton.mp hp
      show s.cs.length ≤ _
      rw [e1]; exact Nat.zero_le _
  · rcases List.mem_append.mp hp with hp | hp
    · exact Nat.le_succ_of_le (k.kss p hp)
    · cases List.mem_singleton.mp hp
      show s.ks.length ≤ _
      rw [e2]; exact Nat.zero_le _
  · rcases List.mem_append.mp (pm.mem_iff.mp hb) with hb | hb
    · exact .inr (hx b hb)
    · exact .inl hb
/-- a space goes -/
theorem woRemove (h : WoAt K H w W) (k : WoOk n w W) {m : Int} {kvs : List (Key × V)} (of : Off [W.S] H H') (tk : TK H H') (hk : H W.S = some (.dK kvs)) (hS : H' W.S = some (.dK (dropK kvs (eI m)))) :
    WoAt K H' w { W with sp := delI W.sp m } ∧ WoOk (n + 1) w { W with sp := delI W.sp m } ∧ ∀ b ∈ own w { W with sp := delI W.sp m }, b ∈ own w W ∨ H b = none := by
  have N := nds k.nd
  obtain ⟨kvs', hS0, pr, nk⟩ := h.tsp
  obtain rfl : kvs' = kvs := by
    have hS0 : H W.S = some (.dK kvs') := hS0
    rw [hS0] at hk; cases hk; rfl
  have e : ∀ b, b ≠ W.S → ∀ o, H b = some o → H' b = some o := fun b nb o ho => of _ _ ho (by simpa using nb)
  have sub : List.Sublist (delI W.sp m) W.sp := List.filter_sublist
  have os : List.Sublist (own w { W with sp := delI W.sp m }) (own w W) := own_sub (k := W.sn) sub (List.Sublist.refl _)
  have lm := sub.length_le
  exact ⟨⟨⟨e _ N.wS _ h.top, fun p hp => (h.ins p (sub.subset hp)).at tk fun b hb => e b (N.wp p (sub.subset hp) b hb).2.1, fun p hp => CellAt.at (h.cel p hp) (e _ (N.wq p hp).2.1)⟩, ⟨_, hS, pr_drop (R := fun v (s : Sw) => v = .ref s.ls) eI_inj pr, nk.sublist (sub.map _)⟩, TabAt.at h.tsn (e _ (fun z => N.SN z.symm))⟩,
    ⟨k.nd.sublist os, fun p hp => k.kn p (sub.subset hp), k.om, Nat.le_succ_of_le (Nat.le_trans lm k.sps), Nat.le_succ_of_le k.sns, fun p hp => Nat.le_succ_of_le (k.css p (sub.subset hp)), fun p hp => Nat.le_succ_of_le (k.kss p (sub.subset hp)), fun p hp => Nat.le_succ_of_le (k.cns p hp)⟩, fun b hb => .inl (os.subset hb)⟩
/-- a snapshot is taken -/
theorem woSnap (h : WoAt K H w W) (k : WoOk n w W) {m o' : Int} {c : Addr} {cs : Cells} {kvs : List (List Key × V)} (ho : ∀ p ∈ W.sn, p.1.2 < o') (hoW : o' ≤ W.o) (hx : H c = none) (of : Off [W.N] H H') (tk : TK H H')
    (hk : H W.N = some ((kdT K).ho kvs)) (hN : H' W.N = some ((kdT K).ho (kvs ++ [(eP (m, o'), .ref c)]))) (hc : CellAt K H' c cs) (cl : cs.length ≤ n + 1) :
    WoAt K H' w { W with sn := W.sn ++ [((m, o'), c, cs)] } ∧ WoOk (n + 1) w { W with sn := W.sn ++ [((m, o'), c, cs)] } ∧ ∀ b ∈ own w { W with sn := W.sn ++ [((m, o'), c, cs)] }, b ∈ own w W ∨ H b = none := by
  have N := nds k.nd
  obtain ⟨kvs', hS0, pr, nk⟩ := h.tsn
  obtain rfl : kvs' = kvs := by
    have h1 : (kdT K).ho kvs' = (kdT K).ho kvs := by rw [hS0] at hk; exact Option.some.inj hk
    exact (HO.dT.injEq _ _).mp h1
  have e : ∀ b, b ≠ W.N → ∀ o, H b = some o → H' b = some o := fun b nb o ho => of _ _ ho (by simpa using nb)
  have pm := own_snap (w := w) (W := W) (k := ((m, o'), c, cs))
  have nn : (m, o') ∉ W.sn.map (·.1) := fun hm => by
    obtain ⟨q, hq, eq⟩ := List.mem_map.mp hm
    have := ho q hq
    rw [eq] at this
    exact absurd this (by simp)
  refine ⟨⟨⟨e _ N.wN _ h.top, fun p hp => (h.ins p hp).at tk fun b hb => e b (N.wp p hp b hb).2.2, fun p hp => ?_⟩, TabAt.at h.tsp (e _ N.SN), ⟨_, hN, pr_snoc (R := fun (p : List Key × V) (q : (Int × Int) × Addr × Cells) => p.1 = eP q.1 ∧ p.2 = .ref q.2.1) ⟨rfl, rfl⟩ pr, ?_⟩⟩, ⟨?_, k.kn, fun p hp => ?_, Nat.le_succ_of_le k.sps, ?_, fun p hp => Nat.le_succ_of_le (k.css p hp), fun p hp => Nat.le_succ_of_le (k.kss p hp), fun p hp => ?_⟩, fun b hb => ?_⟩
  · rcases List.mem_append.mp hp with hp | hp
    · exact CellAt.at (h.cel p hp) (e _ (N.wq p hp).2.2)
    · cases List.mem_singleton.mp hp; exact hc
  · rw [List.map_append]
    exact List.nodup_append.mpr ⟨nk, by simp, fun x hx' y hy z => by simp at hy; subst hy; subst z; exact nn hx'⟩
  · exact pm.nodup_iff.mpr (own_new (xs := [c]) h (by simpa using hx) (by simp) k.nd)
  · rcases List.mem_append.mp hp with hp | hp
    · exact k.om p hp
    · cases List.mem_singleton.mp hp; exact hoW
  · rw [List.length_append]; exact Nat.succ_le_succ k.sns
  · rcases List.mem_append.mp hp with hp | hp
    · exact Nat.le_succ_of_le (k.cns p hp)
    · cases List.mem_singleton.mp hp; exact cl
  · rcases List.mem_cons.mp (pm.mem_iff.mp hb) with rfl | hb
    · exact .inr hx
    · exact .inl hb
/-- a snapshot goes -/
theorem woDrop (h : WoAt K H w W) (k : WoOk n w W) {m : Int × Int} {kvs : List (List Key × V)} (of : Off [W.N] H H') (tk : TK H H') (hk : H W.N = some ((kdT K).ho kvs)) (hN : H' W.N = some ((kdT K).ho (dropK kvs (eP m)))) :
    WoAt K H' w { W with sn := delI W.sn m } ∧ WoOk (n + 1) w { W with sn := delI W.sn m } ∧ ∀ b ∈ own w { W with sn := delI W.sn m }, b ∈ own w W ∨ H b = none := by
  have N := nds k.nd
  obtain ⟨kvs', hS0, pr, nk⟩ := h.tsn
  obtain rfl : kvs' = kvs := by
    have h1 : (kdT K).ho kvs' = (kdT K).ho kvs := by rw [hS0] at hk; exact Option.some.inj hk
    exact (HO.dT.injEq _ _).mp h1
  have e : ∀ b, b ≠ W.N → ∀ o, H b = some o → H' b = some o := fun b nb o ho => of _ _ ho (by simpa using nb)
  have sub : List.Sublist (delI W.sn m) W.sn := List.filter_sublist
  have os : List.Sublist (own w { W with sn := delI W.sn m }) (own w W) := own_sub (l := W.sp) (List.Sublist.refl _) sub
  have lm := sub.length_le
  exact ⟨⟨⟨e _ N.wN _ h.top, fun p hp => (h.ins p hp).at tk fun b hb => e b (N.wp p hp b hb).2.2, fun p hp => CellAt.at (h.cel p (sub.subset hp)) (e _ (N.wq p (sub.subset hp)).2.2)⟩, TabAt.at h.tsp (e _ N.SN), ⟨_, hN, pr_drop (R := fun v (s : Addr × Cells) => v = .ref s.1) eP_inj pr, nk.sublist (sub.map _)⟩⟩,
    ⟨k.nd.sublist os, k.kn, fun p hp => k.om p (sub.subset hp), Nat.le_succ_of_le k.sps, Nat.le_succ_of_le (Nat.le_trans lm k.sns), fun p hp => Nat.le_succ_of_le (k.css p hp), fun p hp => Nat.le_succ_of_le (k.kss p hp), fun p hp => Nat.le_succ_of_le (k.cns p (sub.subset hp))⟩, fun b hb => .inl (os.subset hb)⟩
end
end Sg.Fe

set_option Elab.async false
set_option linter.all false
set_option maxRecDepth 100000
set_option maxHeartbeats 4000000
namespace Sg.Fe
open PySem PySem.Spec PyProof.Rows L2
/-! ### a command is carried out in the world -/
def preC (W : Wo) (h : Int) : Cm → Prop
  | .make n _ => lookI W.sp n = none
  | .remove n => ∃ sw, lookI W.sp n = some sw
  | .write n _ _ => ∃ sw, lookI W.sp n = some sw
  | .trim n p => ∃ sw, lookI W.sp n = some sw ∧ ∃ v, lookI sw.cs p = some v
  | .snap n => ∃ sw, lookI W.sp n = some sw
  | .drop n m => (∃ sw, lookI W.sp n = some sw) ∧ ∃ x, lookI W.sn (n, m) = some x
  | .register n => ∃ sw, lookI W.sp n = some sw ∧ look sw.ks h = none
  | .leave n => ∃ sw, lookI W.sp n = some sw ∧ ¬ look sw.ks h = none
  | .reserve n _ => ∃ sw, lookI W.sp n = some sw
  | .release n => ∃ sw, lookI W.sp n = some sw
  | .preempt n v => ∃ sw, lookI W.sp n = some sw ∧ ¬ look sw.ks v = none
  | _ => False
structure Chg (K : PySem.W.Frag) (n : Nat) (w : Addr) (W : Wo) (H H' : Hp) (W' : Wo) : Prop where
  wa : WoAt K H' w W'
  wk : WoOk (n + 1) w W'
  ow : ∀ b ∈ own w W', b ∈ own w W ∨ H b = none
  of : Off (own w W) H H'
  tk : TK H H'
def spLChange (K : PySem.W.Frag) : Sp := fun vs H Q _ => ∃ w W n h c cm, vs = [.ref w, .int h, .ref c] ∧ WoAt K H w W ∧ WoOk n w W ∧ n ≤ 90 ∧ CmdAt K H c cm ∧ okC cm ∧ preC W h cm ∧ ∀ W' H', Chg K n w W H H' W' → Q .non H'
theorem cells_put {K : PySem.W.Frag} {H H' : Hp} {c : Addr} {cs : Cells} {p v : Int} {kvs : List (Key × V)} (hk : H c = some (.dK kvs)) (h : CellAt K H c cs) (e : H' c = some (.dK (putK kvs (eI p) (.int v)))) : ∃ cs' : Cells, CellAt K H' c cs' ∧ cs'.length ≤ cs.length + 1 := by
  obtain ⟨kvs', hc, pr, nd⟩ := h
  obtain rfl : kvs' = kvs := by
    have hc : H c = some (.dK kvs') := hc
    rw [hc] at hk; cases hk; rfl
  by_cases hp : p ∈ cs.map (·.1)
  · refine ⟨cs.map fun q => if q.1 = p then (p, v) else q, ⟨_, e, ?_, ?_⟩, by rw [List.length_map]; exact Nat.le_succ _⟩
    · have hany : (kvs'.any fun kv => decide (kv.1 = eI p)) = true := by
        rw [List.any_eq_true]
        obtain ⟨q, hq, eq⟩ := List.mem_map.mp hp
        have : eI p ∈ kvs'.map (·.1) := by
          rw [pr_keys (R := fun x v => x = V.int v) pr]
          exact List.mem_map.mpr ⟨q, hq, by rw [eq]⟩
        obtain ⟨kv, hkv, ek⟩ := List.mem_map.mp this
        exact ⟨kv, hkv, decide_eq_true ek⟩
      unfold putK
      rw [if_pos hany]
      clear hany hp nd e hk hc
      induction pr with
      | nil => exact .nil
      | cons r t ih =>
        rename_i a b la lb
        refine .cons ?_ ih
        by_cases z : b.1 = p
        · have za : a.1 = eI p := by rw [r.1, z]
          simp [za, z]
        · have za : ¬ a.1 = eI p := fun y => z (eI_inj _ _ (r.1.symm.trans y))
          simp only [za, z, if_false]
          exact r
    · have : (cs.map fun q => if q.1 = p then (p, v) else q).map (·.1) = cs.map (·.1) := by
        rw [List.map_map]
        refine List.map_congr_left fun q _ => ?_
        by_cases z : q.1 = p
        · simp [z]
        · simp [z]
      rw [this]; exact nd
  · have vn : valV kvs' (eI p) = none := val_none (R := fun x v => x = V.int v) eI_inj pr hp
    rw [put_new' vn] at e
    refine ⟨cs ++ [(p, v)], ⟨_, e, pr_snoc (R := fun (a : Key × V) (q : Int × Int) => a.1 = eI q.1 ∧ a.2 = V.int q.2) ⟨rfl, rfl⟩ pr, ?_⟩, by simp⟩
    rw [List.map_append]
    exact List.nodup_append.mpr ⟨nd, by simp, fun x hx y hy z => by simp at hy; subst hy; subst z; exact hp hx⟩
theorem cells_drop {K : PySem.W.Frag} {H H' : Hp} {c : Addr} {cs : Cells} {p : Int} {kvs : List (Key × V)} (hk : H c = some (.dK kvs)) (h : CellAt K H c cs) (e : H' c = some (.dK (dropK kvs (eI p)))) : CellAt K H' c (delI cs p) := by
  obtain ⟨kvs', hc, pr, nd⟩ := h
  obtain rfl : kvs' = kvs := by
    have hc : H c = some (.dK kvs') := hc
    rw [hc] at hk; cases hk; rfl
  exact ⟨_, e, pr_drop (R := fun x v => x = V.int v) eI_inj pr, del_nodup nd⟩
theorem none_back {H : Hp} {p b : Addr} {o : HO} (h : (upd H p o) b = none) : H b = none := by
  by_cases e : b = p
  · rw [e, upd_same] at h; cases h
  · rw [upd_ne e] at h; exact h
theorem ne_back {H : Hp} {p b : Addr} {o : HO} (h : (upd H p o) b = none) : b ≠ p := fun e => by
  rw [e, upd_same] at h; cases h
theorem pre_sw {W : Wo} {h : Int} {cm : Cm} (p : preC W h cm) (n0 : ¬ cmS cm = "make") : ¬ cmS cm = "flush" ∧ ∃ sw, lookI W.sp (nsC cm) = some sw := by
  cases cm with
  | make n z => exact absurd rfl n0
  | remove n => exact ⟨fun e => wstr (x := "remove") e (by decide +kernel), p⟩
  | write n q v => exact ⟨fun e => wstr (x := "write") e (by decide +kernel), p⟩
  | trim n q => exact ⟨fun e => wstr (x := "trim") e (by decide +kernel), by obtain ⟨sw, a, _⟩ := p; exact ⟨sw, a⟩⟩
  | read n q => exact p.elim
  | snap n => exact ⟨fun e => wstr (x := "snap") e (by decide +kernel), p⟩
  | view n m q => exact p.elim
  | drop n m => exact ⟨fun e => wstr (x := "drop") e (by decide +kernel), p.1⟩
  | register n => exact ⟨fun e => wstr (x := "register") e (by decide +kernel), by obtain ⟨sw, a, _⟩ := p; exact ⟨sw, a⟩⟩
  | leave n => exact ⟨fun e => wstr (x := "leave") e (by decide +kernel), by obtain ⟨sw, a, _⟩ := p; exact ⟨sw, a⟩⟩
  | reserve n w => exact ⟨fun e => wstr (x := "reserve") e (by decide +kernel), p⟩
  | release n => exact ⟨fun e => wstr (x := "release") e (by decide +kernel), p⟩
  | preempt n v => exact ⟨fun e => wstr (x := "preempt") e (by decide +kernel), by obtain ⟨sw, a, _⟩ := p; exact ⟨sw, a⟩⟩
  | flush => exact p.elim
theorem cm_write {cm : Cm} (h : cmS cm = "write") : ∃ n p v, cm = .write n p v := by
  cases cm with
  | write n p v => exact ⟨n, p, v, rfl⟩
  | _ => dsimp only [cmS] at h; exact absurd h (by decide +kernel)
theorem cm_drop {cm : Cm} (h : cmS cm = "drop") : ∃ n m, cm = .drop n m := by
  cases cm with
  | drop n m => exact ⟨n, m, rfl⟩
  | _ => dsimp only [cmS] at h; exact absurd h (by decide +kernel)
theorem sep_of {K : PySem.W.Frag} {w : Addr} {W : Wo} (N : Nds w W) {m : Int} {sw : Sw} (h : (m, sw) ∈ W.sp) : Sep sw := by
  have : (ownS sw).Nodup := by
    have fl := N.fl
    generalize W.sp = l at fl h
    induction l with
    | nil => cases h
    | cons x l ih =>
      rw [List.flatMap_cons] at fl
      obtain ⟨a, b, c⟩ := List.nodup_append.mp fl
      rcases List.mem_cons.mp h with rfl | h
      · exact a
      · exact ih b h
  simp [ownS] at this
  exact ⟨this.1.1, this.1.2, this.2⟩
section
variable {P : Program} {wd : World} {K : PySem.W.Frag} {mg : Str → Option Value} {base : Heap} {f fF : Addr} {fd fdF : FuncData}
theorem scLChange : FnScope ["world", "host", "command", "name", "spaces", "snaps", "space", "cells"] ["world", "host", "command"] (defScope sLChange) := ⟨rfl, rfl, rfl, by decide +kernel, rfl, by decide +kernel, by decide +kernel⟩
theorem ok_lchange (F : Fun K "_law_change" "_law_change" sLChange f fd) (D0 : mg "dict" = none) (GF : Def P wd K mg base CX0 "_law_change_fence" 1 ["space", "host", "command", "order"] (spLChF K) fF fdF) : FnOk P wd K mg base CX0 2 f fd ["world", "host", "command"] (spLChange K) := by
  refine F.ok scLChange (fun vs H Q E h => ?_) (fun cdv A outer s H vs Q E hr h => ?_)
  · obtain ⟨w, W, n, h, c, cm, rfl, _⟩ := h
    rfl
  · obtain ⟨w, W, n, h, c, cm, rfl, WA, WK, hn, hc, oc, pre, q⟩ := h
    have hr1 : Room 1 _ := hr
    refine ⟨_, (pss_cons (ps_asg (pe_op op_add (pe_ix ix_list (pv 0) pe_int (fun _ _ => rfl)) pe_int) (pg_sub (pv 0) pe_int set_list))
      (pss_cons (ps_set (i := 3) scLChange.nd rfl (Or.inl rfl) (pe_ix ix_tup (pv 2) pe_int (fun _ _ => rfl)))
      (pss_cons (ps_set (i := 4) scLChange.nd rfl (Or.inl rfl) (pe_ix ix_list (pv 0) pe_int (fun _ _ => rfl)))
      (pss_cons (ps_set (i := 5) scLChange.nd rfl (Or.inl rfl) (pe_ix ix_list (pv 0) pe_int (fun _ _ => rfl)))
      (pss_cons (ps_if (pt_cmpR op_eq (pv 3) pe_str (nomark _))
      (pss_cons (ps_dput (hu_of hr) (pv 4) (pe_ix ix_tup (pv 2) pe_int (fun _ _ => rfl)) (pe_lst (pa_cons (pe_ix ix_tup (pv 2) pe_int (fun _ _ => rfl)) (pa_cons pe_dnewK (pa_cons pe_dnewK (pa_cons pe_non pa_nil))))) rfl)
      (pss_one ps_retN)) pss_nil)
      (pss_cons (ps_set (i := 6) scLChange.nd rfl (Or.inl rfl) (pe_dget (hu_of hr) (pv 4) (pe_ix ix_tup (pv 2) pe_int (fun _ _ => rfl)) (fun _ _ => rfl)))
      (pss_cons (ps_set (i := 7) scLChange.nd rfl (Or.inl rfl) (pe_ix ix_list (pv 6) pe_int (fun _ _ => rfl)))
      (pss_one (ps_if (pt_cmpR op_eq (pv 3) pe_str (nomark _))
      (pss_one (ps_expr (pe_dpop1 (pv 4) (pe_ix ix_tup (pv 2) pe_int (fun _ _ => rfl)) ⟨rfl, rfl, rfl, rfl⟩))) (pss_one (ps_if (pt_cmpR op_eq (pv 3) pe_str (nomark _))
      (pss_one (ps_dput (hu_of hr) (pv 7) (pe_ix ix_tup (pv 2) pe_int (fun _ _ => rfl)) (pe_ix ix_tup (pv 2) pe_int (fun _ _ => rfl)) rfl)) (pss_one (ps_if (pt_cmpR op_eq (pv 3) pe_str (nomark _))
      (pss_one (ps_expr (pe_dpop1 (pv 7) (pe_ix ix_tup (pv 2) pe_int (fun _ _ => rfl)) ⟨rfl, rfl, rfl, rfl⟩))) (pss_one (ps_if (pt_cmpR op_eq (pv 3) pe_str (nomark _))
      (pss_one (ps_dput (hu_of hr) (pv 5) (pe_tup (pa_cons (pe_ix ix_tup (pv 2) pe_int (fun _ _ => rfl)) (pa_cons (pe_ix ix_list (pv 0) pe_int (fun _ _ => rfl)) pa_nil))) (pe_callTy call_dictD (by rfl) D0 (by decide +kernel) (pa_cons (pv 7) pa_nil)) rfl)) (pss_one (ps_if (pt_cmpR op_eq (pv 3) pe_str (nomark _))
      (pss_one (ps_expr (pe_bm PySem.F.plainAttrs_dict PySem.F.slot_dict_pop PySem.F.type_dict_pop (mt_pop1 (hu_of hr)) (pv 5) (pa_cons (pe_tup (pa_cons (pe_ix ix_tup (pv 2) pe_int (fun _ _ => rfl)) (pa_cons (pe_ix ix_tup (pv 2) pe_int (fun _ _ => rfl)) pa_nil))) pa_nil)))) (pss_one (ps_expr (pe_call GF.ok hr1 (by rfl) GF.mg GF.kp GF.bd .nil pass0 (pa_cons (pv 6) (pa_cons (pv 1) (pa_cons (pv 2) (pa_cons (pe_ix ix_list (pv 0) pe_int (fun _ _ => rfl)) pa_nil)))))))))))))))))))))))), ?_⟩
    have N := nds WK.nd
    -- world[2] = world[2] + 1
    refine ⟨_, rfl, w, _, _, _, rfl, rfl, SqL.of WA.top, atI_nat (j := 2) rfl, _, _, rfl, rfl, _, rfl, w, _, _, 2, rfl, rfl, WA.top, rfl, ?_⟩
    show tSeq _ _ _ _ (upd H w (.lst [.ref W.S, .ref W.N, .int (W.o + 1)]))
    have WA1 := WA.setO WK.nd (W.o + 1)
    have o1 : Off [w] H (upd H w (.lst [.ref W.S, .ref W.N, .int (W.o + 1)])) := Off.upd (List.mem_singleton.mpr rfl)
    have t1 : TK H (upd H w (.lst [.ref W.S, .ref W.N, .int (W.o + 1)])) := tk_upd WA.top (fun _ z => nomatch z) (fun _ _ z => nomatch z)
    have n1 : ∀ b, H b = none → b ≠ w → (upd H w (.lst [.ref W.S, .ref W.N, .int (W.o + 1)])) b = none := fun b hb ne => by rw [upd_ne ne]; exact hb
    have n0 : ∀ b, (upd H w (.lst [.ref W.S, .ref W.N, .int (W.o + 1)])) b = none → H b = none := fun b hb => by
      by_cases e : b = w
      · rw [e, upd_same] at hb; cases hb
      · rw [upd_ne e] at hb; exact hb
    generalize eW : ({ W with o := W.o + 1 } : Wo) = W1 at WA1
    have WK1 : WoOk n w W1 := by
      subst eW
      exact ⟨WK.nd, WK.kn, fun p hp => Int.le_trans (WK.om p hp) (by show W.o ≤ W.o + 1; omega), WK.sps, WK.sns, WK.css, WK.kss, WK.cns⟩
    have ow1 : own w W1 = own w W := by subst eW; rfl
    have pre1 : preC W1 h cm := by subst eW; exact pre
    have om1 : ∀ p ∈ W1.sn, p.1.2 < W1.o := by
      subst eW
      exact fun p hp => by have := WK.om p hp; show p.1.2 < W.o + 1; omega
    have lift : ∀ W' H', Chg K n w W1 (upd H w (.lst [.ref W.S, .ref W.N, .int (W.o + 1)])) H' W' → Q .non H' := fun W' H' C => by
      refine q W' H' ⟨C.wa, C.wk, fun b hb => ?_, fun b o e m => ?_, t1.trans C.tk⟩
      · rcases C.ow b hb with z | z
        · exact .inl (ow1 ▸ z)
        · exact .inr (n0 b z)
      · exact C.of _ _ (o1 _ _ e (fun z => m (by rw [List.mem_singleton.mp z]; exact List.mem_cons_self))) (by rw [ow1]; exact m)
    have hc1 : CmdAt K (upd H w (.lst [.ref W.S, .ref W.N, .int (W.o + 1)])) c cm := sqT_tk hc t1
    have top1 : (upd H w (.lst [.ref W.S, .ref W.N, .int (W.o + 1)])) w = some (.lst [.ref W1.S, .ref W1.N, .int W1.o]) := WA1.top
    generalize upd H w (.lst [.ref W.S, .ref W.N, .int (W.o + 1)]) = H1 at WA1 lift hc1 top1
    clear pre WK WA N o1 t1 n1 n0 q hc ow1
    have N := nds WK1.nd
    refine ⟨_, rfl, c, _, _, _, rfl, rfl, hc1, atI_nat (j := 0) rfl, ?_⟩
    refine ⟨_, rfl, w, _, _, _, rfl, rfl, SqL.of top1, atI_nat (j := 0) rfl, ?_⟩
    refine ⟨_, rfl, w, _, _, _, rfl, rfl, SqL.of top1, atI_nat (j := 1) rfl, ?_⟩
    refine ⟨_, rfl, rfl, _, rfl, ?_⟩
    obtain ⟨kvs, hS, prS, nkS⟩ := id WA1.tsp
    have hS : H1 W1.S = some (.dK kvs) := hS
    have lS : kvs.length < sizeLine := small1000 (by have := Paired.length prS; have := WK1.sps; omega)
    by_cases e0 : cmS cm = "make"
    · refine chooseT (decide_eq_true (by rw [e0])) ?_
      obtain ⟨m, z, rfl⟩ := cm_make e0
      have hno : lookI W1.sp m = none := pre1
      have vn : valV kvs (eI m) = none := by
        rcases pr_look (R := fun v (s : Sw) => v = .ref s.ls) eI_inj (k := m) prS with ⟨_, hz⟩ | ⟨s', z', l0, hz, az⟩
        · exact hz
        · rw [hno] at l0; cases l0
      refine ⟨_, rfl, c, _, _, _, rfl, rfl, hc1, atI_nat (j := 2) rfl, fun d1 h1 d2 h2 => ⟨by show 4 ≤ sizeLine; decide, fun l hl => ?_⟩⟩
      have s1 := same_new (o := .dK []) h1
      have s2 := same_new (o := .dK []) h2
      have s3 := same_new (o := .lst [V.int z, .ref d1, .ref d2, .non]) hl
      have s13 := s1.trans (s2.trans s3)
      have g1 := s3 _ _ (s2 _ _ (show (upd H1 d1 (.dK [])) d1 = some (.dK []) from upd_same))
      have g2 := s3 _ _ (show (upd (upd H1 d1 (.dK [])) d2 (.dK [])) d2 = some (.dK []) from upd_same)
      have g3 : (upd (upd (upd H1 d1 (.dK [])) d2 (.dK [])) l (.lst [V.int z, .ref d1, .ref d2, .non])) l = some (.lst [V.int z, .ref d1, .ref d2, .non]) := upd_same
      have x2 := none_back h2
      have x3 := none_back (none_back hl)
      have y12 : d2 ≠ d1 := ne_back h2
      have y12' : ¬ d1 = d2 := fun e => y12 e.symm
      have y3 : l ≠ d2 := ne_back hl
      have y31 : l ≠ d1 := ne_back (none_back hl)
      show ∃ v, _
      generalize upd (upd (upd H1 d1 (.dK [])) d2 (.dK [])) l (.lst [V.int z, .ref d1, .ref d2, .non]) = H4 at s3 s13 g1 g2 g3
      have hS4 := s13 _ _ hS
      refine ⟨_, rfl, _, rfl, c, _, _, _, rfl, rfl, SqT_same s13 hc1, atI_nat (j := 1) rfl, W1.S, _, rfl, DPut.k (k := eI m) hS4 lS, ?_⟩
      rw [put_new' vn]
      have t5 : TK H4 (upd H4 W1.S (.dK (kvs ++ [(eI m, V.ref l)]))) := tk_upd hS4 (fun _ z => nomatch z) (fun _ _ z => nomatch z)
      have keep : ∀ b o, b ≠ W1.S → H4 b = some o → (upd H4 W1.S (.dK (kvs ++ [(eI m, V.ref l)]))) b = some o := fun b o nb e => by rw [upd_ne nb]; exact e
      have hS5 : (upd H4 W1.S (.dK (kvs ++ [(eI m, V.ref l)]))) W1.S = some (.dK (kvs ++ [(eI m, V.ref l)])) := upd_same
      generalize upd H4 W1.S (.dK (kvs ++ [(eI m, V.ref l)])) = H5 at t5 keep hS5
      have ne : ∀ b, H1 b = none → b ≠ W1.S := fun b e z' => by rw [z', hS] at e; cases e
      obtain ⟨r1, r2, r3⟩ := woMake (s := ⟨l, d1, d2, z, [], [], none⟩) (H' := H5) WA1 WK1 hno (fun b hb => by
        have hb' : b = l ∨ b = d1 ∨ b = d2 := by simpa [ownS] using hb
        rcases hb' with rfl | rfl | rfl
        · exact x3
        · exact h1
        · exact x2) (by simp [ownS, y3, y31, y12']) (fun b o e nb => keep _ _ (by simpa using nb) (s13 _ _ e)) ((TK.of s13).trans t5) hS hS5
        ⟨.non, keep _ _ (ne _ x3) g3, rfl, ⟨[], keep _ _ (ne _ h1) g1, .nil, List.nodup_nil⟩, keep _ _ (ne _ x2) g2⟩ rfl rfl
      exact lift _ H5 ⟨r1, r2, r3, fun b o e nb => keep _ _ (fun z' => nb (z' ▸ by simp [own])) (s13 _ _ e), (TK.of s13).trans t5⟩
    refine chooseF (str_eqF e0) ?_
    obtain ⟨nf, sw, ls⟩ := pre_sw pre1 e0
    have hm := Sg.look_mem ls
    have SW := WA1.ins _ hm
    obtain ⟨hv, hls, hhold, hca, hka⟩ := id SW
    have S := sep_of (K := K) N hm
    have hz : valV kvs (eI (nsC cm)) = some (.ref sw.ls) := by
      rcases pr_look (R := fun v (s : Sw) => v = .ref s.ls) eI_inj (k := nsC cm) prS with ⟨l0, _⟩ | ⟨s', z, l0, hz, az⟩
      · rw [l0] at ls; cases ls
      · rw [l0] at ls; cases ls; rw [hz, az]
    refine ⟨_, rfl, cm_one hc1 nf rfl ⟨W1.S, _, rfl, .inl ⟨_, eI (nsC cm), .inl hS, rfl, hz.symm⟩, ?_⟩⟩
    refine ⟨_, rfl, sw.ls, _, _, _, rfl, rfl, SqL.of hls, atI_nat (j := 1) rfl, ?_⟩
    -- one of a space's own things is changed
    have spc : ∀ (s' : Sw) (H' : Hp), ownS s' = ownS sw → Off (ownS sw) H1 H' → TK H1 H' → SwIn K H' s' → KNd s'.ks → s'.cs.length ≤ sw.cs.length + 1 → s'.ks.length ≤ sw.ks.length + 1 → Q .non H' := fun s' H' ea of tk si kn cl kl => by
      obtain ⟨r1, r2⟩ := WA1.space WK1.nd hm ea of tk si
      exact lift _ H' ⟨r1, WK1.space nkS hm ea kn cl kl, fun b hb => .inl (r2 ▸ hb), fun b o e nb => of _ _ e (fun hb => nb (own_sp hm hb)), tk⟩
    obtain ⟨ckv, hck, cpr, cnd⟩ := id hca
    have lcs : sw.cs.length ≤ 90 := Nat.le_trans (WK1.css _ hm) hn
    have lck : ckv.length < sizeLine := small1000 (by have : ckv.length = sw.cs.length := Paired.length cpr; omega)
    refine ⟨_, rfl, rfl, _, rfl, ?_⟩
    by_cases e1 : cmS cm = "remove"
    · refine chooseT (decide_eq_true (by rw [e1])) ⟨_, rfl, W1.S, rfl, .inl ⟨_, .inl hS⟩, cm_one hc1 nf rfl ⟨kvs, eI (nsC cm), _, hS, rfl, hz, ?_⟩⟩
      have t5 : TK H1 (upd H1 W1.S (.dK (dropK kvs (eI (nsC cm))))) := tk_upd hS (fun _ z => nomatch z) (fun _ _ z => nomatch z)
      obtain ⟨r1, r2, r3⟩ := woRemove (m := nsC cm) WA1 WK1 (Off.upd (List.mem_singleton.mpr rfl)) t5 hS upd_same
      exact lift _ _ ⟨r1, r2, r3, Off.upd (by simp [own]), t5⟩
    refine chooseF (str_eqF e1) ⟨_, rfl, rfl, _, rfl, ?_⟩
    have cellsQ : ∀ (o : HO) (cs' : Cells), CellAt K (upd H1 sw.ca o) sw.ca cs' → cs'.length ≤ sw.cs.length + 1 → (∀ xs, o ≠ .tup xs) → (∀ a u, o ≠ .frz a u) → Q .non (upd H1 sw.ca o) := fun o cs' hcs cl n1 n2 => by
      have t5 : TK H1 (upd H1 sw.ca o) := tk_upd hck (fun _ z => nomatch z) (fun _ _ z => nomatch z)
      refine spc { sw with cs := cs' } _ rfl (Off.upd (by simp [ownS])) t5 ⟨hv, by rw [show (upd H1 sw.ca o) sw.ls = H1 sw.ls from upd_ne S.lc]; exact hls, hhold.tk t5, hcs, ?_⟩ (WK1.kn _ hm) cl (Nat.le_succ _)
      show (upd H1 sw.ca o) sw.ka = _
      rw [upd_ne (fun z => S.ck z.symm)]; exact hka
    by_cases e2 : cmS cm = "write"
    · refine chooseT (decide_eq_true (by rw [e2])) ?_
      obtain ⟨m, p, v, rfl⟩ := cm_write e2
      refine ⟨_, rfl, c, _, _, _, rfl, rfl, hc1, atI_nat (j := 3) rfl, _, rfl, _, rfl, c, _, _, _, rfl, rfl, hc1, atI_nat (j := 2) rfl, sw.ca, _, rfl, DPut.k (k := eI p) hck lck, ?_⟩
      obtain ⟨cs', a1, a2⟩ := cells_put (H' := upd H1 sw.ca (.dK (putK ckv (eI p) (.int v)))) hck hca upd_same
      exact cellsQ _ cs' a1 a2 (fun _ z => nomatch z) (fun _ _ z => nomatch z)
    refine chooseF (str_eqF e2) ⟨_, rfl, rfl, _, rfl, ?_⟩
    by_cases e3 : cmS cm = "trim"
    · refine chooseT (decide_eq_true (by rw [e3])) ?_
      obtain ⟨m, p, rfl⟩ := cm_trim e3
      obtain ⟨sw', l1, v, lv⟩ : ∃ sw', lookI W1.sp m = some sw' ∧ ∃ v, lookI sw'.cs p = some v := pre1
      obtain rfl : sw' = sw := by rw [show nsC (.trim m p) = m from rfl, l1] at ls; exact Option.some.inj ls
      have hzc : valV ckv (eI p) = some (.int v) := by
        rcases pr_look (R := fun x v => x = V.int v) eI_inj (k := p) cpr with ⟨l0, _⟩ | ⟨v', z, l0, hz, az⟩
        · rw [l0] at lv; cases lv
        · rw [l0] at lv; cases lv; rw [hz, az]
      refine ⟨_, rfl, sw'.ca, rfl, .inl ⟨_, .inl hck⟩, _, rfl, c, _, _, _, rfl, rfl, hc1, atI_nat (j := 2) rfl, ckv, eI p, _, hck, rfl, hzc, ?_⟩
      exact cellsQ _ _ (cells_drop (H' := upd H1 sw'.ca (.dK (dropK ckv (eI p)))) hck hca upd_same) (Nat.le_succ_of_le del_len) (fun _ z => nomatch z) (fun _ _ z => nomatch z)
    refine chooseF (str_eqF e3) ⟨_, rfl, rfl, _, rfl, ?_⟩
    obtain ⟨kvs2, hN, prN, nkN⟩ := id WA1.tsn
    by_cases e4 : cmS cm = "snap"
    · refine chooseT (decide_eq_true (by rw [e4])) ?_
      obtain ⟨m, rfl⟩ := cm_snap e4
      refine ⟨_, rfl, sw.ca, ckv, rfl, .inl hck, fun c' hc' => ?_⟩
      have s1 := same_new (o := .dK ckv) hc'
      have hcc : CellAt K (upd H1 c' (.dK ckv)) c' sw.cs := ⟨ckv, upd_same, cpr, cnd⟩
      generalize upd H1 c' (.dK ckv) = G1 at s1 hcc
      refine ⟨_, rfl, _, rfl, c, _, _, _, rfl, rfl, SqT_same s1 hc1, atI_nat (j := 1) rfl, _, rfl, w, _, _, _, rfl, rfl, SqL.of (s1 _ _ top1), atI_nat (j := 2) rfl, by show 2 ≤ sizeLine; decide, fun t ht => ?_⟩
      have s2 := same_new (o := .tup [V.int m, V.int W1.o]) ht
      have ht2 : (upd G1 t (.tup [V.int m, V.int W1.o])) t = some (.tup [V.int m, V.int W1.o]) := upd_same
      generalize upd G1 t (.tup [V.int m, V.int W1.o]) = G2 at s2 ht2
      have s12 := s1.trans s2
      have hN2 := s12 _ _ hN
      have vn : valV kvs2 (eP (m, W1.o)) = none := val_none (R := fun v (s : Addr × Cells) => v = .ref s.1) eP_inj prN fun hq => by
        obtain ⟨p, hp, e⟩ := List.mem_map.mp hq
        have := om1 p hp
        rw [e] at this
        exact absurd this (by simp)
      have lN : kvs2.length < sizeLine := small1000 (by have := Paired.length prN; have := WK1.sns; omega)
      refine ⟨W1.N, _, rfl, (kdT K).put hN2 (k := eP (m, W1.o)) ⟨t, rfl, ht2⟩ lN, ?_⟩
      rw [put_new' vn]
      have t5 : TK G2 (upd G2 W1.N ((kdT K).ho (kvs2 ++ [(eP (m, W1.o), V.ref c')]))) := tk_upd hN2 (fun _ z => nomatch z) (fun _ _ z => nomatch z)
      have keep : ∀ b o, b ≠ W1.N → G2 b = some o → (upd G2 W1.N ((kdT K).ho (kvs2 ++ [(eP (m, W1.o), V.ref c')]))) b = some o := fun b o nb e => by rw [upd_ne nb]; exact e
      have hN5 : (upd G2 W1.N ((kdT K).ho (kvs2 ++ [(eP (m, W1.o), V.ref c')]))) W1.N = some ((kdT K).ho (kvs2 ++ [(eP (m, W1.o), V.ref c')])) := upd_same
      generalize upd G2 W1.N ((kdT K).ho (kvs2 ++ [(eP (m, W1.o), V.ref c')])) = H5 at t5 keep hN5
      have cN : c' ≠ W1.N := fun z => by rw [z, hN] at hc'; cases hc'
      obtain ⟨r1, r2, r3⟩ := woSnap (H' := H5) WA1 WK1 om1 (Int.le_refl _) hc' (fun b o e nb => keep _ _ (by simpa using nb) (s12 _ _ e)) ((TK.of s12).trans t5) hN hN5 (CellAt.at hcc fun o ho => keep _ _ cN (s2 _ _ ho)) (Nat.le_succ_of_le (WK1.css _ hm))
      exact lift _ H5 ⟨r1, r2, r3, fun b o e nb => keep _ _ (fun z' => nb (z' ▸ by simp [own])) (s12 _ _ e), (TK.of s12).trans t5⟩
    refine chooseF (str_eqF e4) ⟨_, rfl, rfl, _, rfl, ?_⟩
    by_cases e5 : cmS cm = "drop"
    · refine chooseT (decide_eq_true (by rw [e5])) ?_
      obtain ⟨m, k, rfl⟩ := cm_drop e5
      obtain ⟨_, x, lx⟩ : (∃ sw, lookI W1.sp m = some sw) ∧ ∃ x, lookI W1.sn (m, k) = some x := pre1
      have hzN : valV kvs2 (eP (m, k)) = some (.ref x.1) := by
        rcases pr_look (R := fun v (s : Addr × Cells) => v = .ref s.1) eP_inj (k := (m, k)) prN with ⟨l0, _⟩ | ⟨s', z, l0, hz, az⟩
        · rw [l0] at lx; cases lx
        · rw [l0] at lx; cases lx; rw [hz, az]
      refine ⟨_, rfl, .inr (.inr (.inl ⟨rfl, .inr ⟨_, hN⟩⟩)), _, rfl, c, _, _, _, rfl, rfl, hc1, atI_nat (j := 1) rfl, _, rfl, c, _, _, _, rfl, rfl, hc1, atI_nat (j := 2) rfl, by show 2 ≤ sizeLine; decide, fun t ht => ?_⟩
      have s2 := same_new (o := .tup [V.int m, V.int k]) ht
      have ht2 : (upd H1 t (.tup [V.int m, V.int k])) t = some (.tup [V.int m, V.int k]) := upd_same
      generalize upd H1 t (.tup [V.int m, V.int k]) = G2 at s2 ht2
      have hN2 := s2 _ _ hN
      refine ⟨W1.N, kvs2, eP (m, k), t, _, rfl, rfl, hN2, ht2, hzN, ?_⟩
      have t5 : TK G2 (upd G2 W1.N (.dT (dropK kvs2 (eP (m, k))))) := tk_upd hN2 (fun _ z => nomatch z) (fun _ _ z => nomatch z)
      have keep : ∀ b o, b ≠ W1.N → G2 b = some o → (upd G2 W1.N (.dT (dropK kvs2 (eP (m, k))))) b = some o := fun b o nb e => by rw [upd_ne nb]; exact e
      have hN5 : (upd G2 W1.N (.dT (dropK kvs2 (eP (m, k))))) W1.N = some ((kdT K).ho (dropK kvs2 (eP (m, k)))) := upd_same
      generalize upd G2 W1.N (.dT (dropK kvs2 (eP (m, k)))) = H5 at t5 keep hN5
      obtain ⟨r1, r2, r3⟩ := woDrop (H' := H5) WA1 WK1 (fun b o e nb => keep _ _ (by simpa using nb) (s2 _ _ e)) ((TK.of s2).trans t5) hN hN5
      exact lift _ H5 ⟨r1, r2, r3, fun b o e nb => keep _ _ (fun z' => nb (z' ▸ by simp [own])) (s2 _ _ e), (TK.of s2).trans t5⟩
    refine chooseF (str_eqF e5) ?_
    refine ⟨_, rfl, _, rfl, _, rfl, _, rfl, w, _, _, _, rfl, rfl, SqL.of top1, atI_nat (j := 2) rfl, ?_⟩
    refine ⟨sw, h, c, cm, W1.o, rfl, SW, S, WK1.kn _ hm, Nat.le_trans (WK1.kss _ hm) (by omega), hc1, oc, fun e => ?_, fun e => ?_, fun m v e => ?_, fun ks' hd' H' St => ?_⟩
    · obtain ⟨m, rfl⟩ := cm_register e
      obtain ⟨sw', l1, l2⟩ : ∃ sw', lookI W1.sp m = some sw' ∧ look sw'.ks h = none := pre1
      obtain rfl : sw' = sw := by rw [show nsC (.register m) = m from rfl, l1] at ls; exact Option.some.inj ls
      exact l2
    · obtain ⟨m, rfl⟩ := cm_leave e
      obtain ⟨sw', l1, l2⟩ : ∃ sw', lookI W1.sp m = some sw' ∧ ¬ look sw'.ks h = none := pre1
      obtain rfl : sw' = sw := by rw [show nsC (.leave m) = m from rfl, l1] at ls; exact Option.some.inj ls
      exact l2
    · subst e
      obtain ⟨sw', l1, l2⟩ : ∃ sw', lookI W1.sp m = some sw' ∧ ¬ look sw'.ks v = none := pre1
      obtain rfl : sw' = sw := by rw [show nsC (.preempt m v) = m from rfl, l1] at ls; exact Option.some.inj ls
      exact l2
    · exact spc { sw with ks := ks', hd := hd' } H' rfl (fun b o e nb => St.of _ _ e (fun hb => nb (by
        rcases List.mem_cons.mp hb with rfl | hb
        · simp [ownS]
        · rw [List.mem_singleton.mp hb]; simp [ownS]))) St.tk St.inn St.nd (Nat.le_succ _) St.ln
end
end Sg.Fe

set_option Elab.async false
set_option linter.all false
set_option maxRecDepth 100000
set_option maxHeartbeats 4000000
namespace Sg.Fe
open PySem PySem.Spec PyProof.Rows L2
/-! ### answers as data; what is carried out may be -/
def vD : V → PyData
  | .int i => .int i
  | .str s => .str s
  | .bl b => .bool b
  | _ => .none
def okF : V → Prop
  | .int _ => True
  | .str s => PyData.strOk s = true
  | .bl _ => True
  | .non => True
  | _ => False
def fD : Option (List V) → PyData
  | none => .none
  | some xs => .tuple (xs.map vD)
def xD : Option Int → PyData
  | none => .none
  | some i => .int i
def ansD (w : Str) (x : Option Int) (fs : Option (List V)) : PyData := .tuple [.tuple [.str w, xD x], fD fs]
theorem flat_dp {K : PySem.W.Frag} {H : Hp} {v : V} (h : okF v) : Dp K H v (vD v) := by
  cases v with
  | int i => exact .int i
  | str s => exact .str s
  | bl b => exact .bl b
  | non => exact .non
  | _ => exact h.elim
theorem flats_dp {K : PySem.W.Frag} {H : Hp} : ∀ {xs : List V}, (∀ v ∈ xs, okF v) → DpAll K H xs (xs.map vD)
  | [], _ => .nil
  | x :: xs, h => .cons (flat_dp (h x List.mem_cons_self)) (flats_dp fun v hv => h v (List.mem_cons_of_mem _ hv))
theorem oV_dp {K : PySem.W.Frag} {H : Hp} {x : Option Int} : Dp K H (oV x) (xD x) := by
  cases x with
  | none => exact .non
  | some i => exact .int i
def okL (fs : Option (List V)) : Prop := ∀ xs, fs = some xs → ∀ v ∈ xs, okF v
theorem fld_dp {K : PySem.W.Frag} {H : Hp} {v : V} {fs : Option (List V)} (h : OptTup K H v fs) (ok : okL fs) : Dp K H v (fD fs) := by
  cases fs with
  | none => cases (show v = .non from h); exact .non
  | some xs =>
    obtain ⟨t, rfl, ht⟩ := (show ∃ t, v = .ref t ∧ SqT K H t xs from h)
    exact .tup ht (flats_dp (ok xs rfl))
theorem ans_dp {K : PySem.W.Frag} {H : Hp} {t t1 : Addr} {fv : V} {w : Str} {x : Option Int} {fs : Option (List V)} (h1 : H t = some (.tup [.ref t1, fv])) (h2 : H t1 = some (.tup [.str w, oV x])) (h3 : OptTup K H fv fs) (ok : okL fs) : Dp K H (.ref t) (ansD w x fs) :=
  .tup (SqT.of h1) (.cons (.tup (SqT.of h2) (.cons (.str w) (.cons oV_dp .nil))) (.cons (fld_dp h3 ok) .nil))
theorem flat_lay {v : V} (h : okF v) : (vD v).canLay0 = true ∧ (vD v).depth = 0 := by
  cases v with
  | int i => exact ⟨by simp [vD, PyData.canLay0], by simp [vD, PyData.depth]⟩
  | str s => exact ⟨by simp [vD, PyData.canLay0]; exact h, by simp [vD, PyData.depth]⟩
  | bl b => exact ⟨by simp [vD, PyData.canLay0], by simp [vD, PyData.depth]⟩
  | non => exact ⟨by simp [vD, PyData.canLay0], by simp [vD, PyData.depth]⟩
  | _ => exact h.elim
theorem flats_lay : ∀ {xs : List V}, (∀ v ∈ xs, okF v) → PyData.canLayAll0 (xs.map vD) = true ∧ PyData.depthAll (xs.map vD) = 0
  | [], _ => ⟨by simp [PyData.canLayAll0], by simp [PyData.depthAll]⟩
  | x :: xs, h => by
    obtain ⟨a, b⟩ := flats_lay (xs := xs) fun v hv => h v (List.mem_cons_of_mem _ hv)
    obtain ⟨c, d⟩ := flat_lay (h x List.mem_cons_self)
    exact ⟨by simp [PyData.canLayAll0, a, c], by simp [PyData.depthAll, b, d]⟩
theorem fD_lay {fs : Option (List V)} (ok : okL fs) : (fD fs).canLay0 = true ∧ (fD fs).depth ≤ 1 := by
  cases fs with
  | none => exact ⟨by simp [fD, PyData.canLay0], by simp [fD, PyData.depth]⟩
  | some xs =>
    obtain ⟨a, b⟩ := flats_lay (ok xs rfl)
    exact ⟨by simp [fD, PyData.canLay0, a], by simp [fD, PyData.depth, b]⟩
theorem ans_lay {w : Str} {x : Option Int} {fs : Option (List V)} (hw : PyData.strOk w = true) (ok : okL fs) : (ansD w x fs).canLay0 = true ∧ (ansD w x fs).depth ≤ 64 := by
  obtain ⟨a, b⟩ := fD_lay ok
  have hx : (xD x).canLay0 = true ∧ (xD x).depth = 0 := by
    cases x with
    | none => exact ⟨by simp [xD, PyData.canLay0], by simp [xD, PyData.depth]⟩
    | some i => exact ⟨by simp [xD, PyData.canLay0], by simp [xD, PyData.depth]⟩
  refine ⟨by simp [ansD, PyData.canLay0, PyData.canLayAll0, a, hw, hx.1], ?_⟩
  simp [ansD, PyData.depth, PyData.depthAll, hx.2]
  omega
theorem ans_sh {w : Str} {x : Option Int} {fs : Option (List V)} (hw : PyData.strOk w = true) (ok : okL fs) : SeqAt.shaped (ansD w x fs) = true := by
  obtain ⟨a, b⟩ := ans_lay (x := x) hw ok
  show ((ansD w x fs).canLay0 && decide ((ansD w x fs).depth ≤ 64)) = true
  rw [a, decide_eq_true b]; rfl
theorem due_ok {ks : List (Int × Int)} {hd : Option (Int × Str)} {h : Int} {key : Option Int} {word : Str} {rest : List V} : PyData.strOk (due ks hd h key word rest) = true := by
  unfold due regDue preDue
  repeat' split
  all_goals decide +kernel
theorem tail_ok {st : Sta} {s : Spc} {cm : Cm} : PyData.strOk (tailW st s cm) = true := by
  unfold tailW
  repeat' split
  all_goals decide +kernel
theorem in_ok {st : Sta} {h : Int} {key : Option Int} {cm : Cm} : PyData.strOk (inW st h key cm) = true := by
  unfold inW
  split
  · decide +kernel
  · split
    · exact tail_ok
    · exact due_ok
theorem ref_ok {st : Sta} {h : Int} {key : Option Int} {cm : Cm} : PyData.strOk (refW st h key cm) = true := by
  cases cm with
  | flush => show PyData.strOk "" = true; decide +kernel
  | make n z =>
    show PyData.strOk (if (lookI st.sp n).isSome = true then ("exists" : Str) else ("" : Str)) = true
    split <;> decide +kernel
  | _ => exact in_ok
theorem cmI_ok {cm : Cm} (oc : okC cm) : ∀ v ∈ cmI cm, okF v := by
  intro v hv
  cases cm with
  | reserve n w =>
    have : v = .int n ∨ v = .str w := by simpa [cmI] using hv
    rcases this with rfl | rfl
    · trivial
    · exact oc
  | flush => cases hv
  | _ =>
    simp only [cmI, List.mem_cons, List.mem_nil_iff, or_false] at hv
    first
      | (rcases hv with rfl | rfl | rfl <;> trivial)
      | (rcases hv with rfl | rfl <;> trivial)
      | (subst hv; trivial)
theorem way_ok {hd : Option (Int × Str)} {v : Int} (ok : ∀ h w, hd = some (h, w) → PyData.strOk w = true) : okF (wayV hd v) := by
  cases hd with
  | none => trivial
  | some x =>
    obtain ⟨g, w⟩ := x
    unfold wayV
    show okF (if g = v then .str w else .non)
    split
    · exact ok _ _ rfl
    · trivial
theorem fldIn_ok {s : Spc} {h : Int} {cm : Cm} (oc : okC cm) (ok : ∀ h w, s.hd = some (h, w) → PyData.strOk w = true) : okL (fldIn s h cm) := by
  intro xs e
  unfold fldIn at e
  split at e
  · cases e
  · cases cm with
    | leave n =>
      cases e
      intro v hv
      have : v = .int n ∨ v = .bl (wayHas s.hd h) := by simpa using hv
      rcases this with rfl | rfl <;> trivial
    | preempt n z =>
      cases e
      intro v hv
      have : v = .int n ∨ v = .int z ∨ v = wayV s.hd z := by simpa using hv
      rcases this with rfl | rfl | rfl
      · trivial
      · trivial
      · exact way_ok ok
    | _ => cases e; exact cmI_ok oc
theorem fld_ok {st : Sta} {h : Int} {cm : Cm} (oc : okC cm) (ok : ∀ p ∈ st.sp, ∀ h w, p.2.hd = some (h, w) → PyData.strOk w = true) : okL (fldW st h cm) := by
  rcases cm_rec cm with ⟨_, fn⟩ | ⟨_, nf, fn⟩
  · rw [fn]; intro xs e; cases e
  by_cases e0 : cmS cm = "make"
  · obtain ⟨n, z, rfl⟩ := cm_make e0
    intro xs e; cases e
    exact cmI_ok (cm := .make n z) oc
  rw [fn e0]
  cases hl : lookI st.sp (nsC cm) with
  | none => intro xs e; cases e
  | some s =>
    show okL (if trimN s cm = true then none else fldIn s h cm)
    split
    · intro xs e; cases e
    · exact fldIn_ok oc (ok _ (Sg.look_mem hl))
theorem ref_in {st : Sta} {h : Int} {key : Option Int} {cm : Cm} {s : Spc} (e : refW st h key cm = "") (h1 : ¬ cmS cm = "flush") (h2 : ¬ cmS cm = "make") (l : lookI st.sp (nsC cm) = some s) : due s.rg s.hd h key (cmS cm) (cmI cm) = "" ∧ tailW st s cm = "" := by
  rw [cm_in h1 h2] at e
  unfold inW at e
  rw [l] at e
  by_cases ed : due s.rg s.hd h key (cmS cm) (cmI cm) = ""
  · exact ⟨ed, by rw [← e]; exact (if_pos ed).symm⟩
  · exact absurd (by rw [← e]; exact (if_neg ed).symm) ed
theorem due_reg {ks : List (Int × Int)} {hd : Option (Int × Str)} {h : Int} {key : Option Int} {word : Str} {rest : List V} (e : due ks hd h key word rest = "") (r : strIn word registeredL = true) : regDue ks hd h word rest = "" := by
  unfold due at e
  split at e
  · exact ns_e (x := "conflict") (by decide +kernel) e
  · first | exact e | (rw [if_pos r] at e; exact e)
theorem reg_look {ks : List (Int × Int)} {hd : Option (Int × Str)} {h : Int} {word : Str} {rest : List V} (e : regDue ks hd h word rest = "") : ¬ look ks h = none := fun z => by
  unfold regDue at e
  rw [if_pos z] at e
  exact ns_e (x := "conflict") (by decide +kernel) e
theorem pre_of {st : Sta} {W : Wo} {w : Addr} {n : Nat} {h : Int} {key : Option Int} {cm : Cm} (SO : StOf W st) (WK : WoOk n w W) (e : refW st h key cm = "") (ne : ¬ fldW st h cm = none) : preC W h cm := by
  have sp : ∀ m s, lookI st.sp m = some s → ∃ sw, lookI W.sp m = some sw ∧ OneOf (m, sw) (m, s) := fun m s hs => by
    rcases one_look (n := m) SO.sp with ⟨_, l2⟩ | ⟨sw, sp, l1, l2, OO⟩
    · rw [l2] at hs; cases hs
    · rw [l2] at hs; cases hs; exact ⟨sw, l1, OO⟩
  have has : ¬ cmS cm = "flush" → ¬ cmS cm = "make" → ∃ s sw, lookI st.sp (nsC cm) = some s ∧ lookI W.sp (nsC cm) = some sw ∧ OneOf (nsC cm, sw) (nsC cm, s) := fun h1 h2 => by
    obtain ⟨s, hs⟩ := ref_sp e h1 h2
    obtain ⟨sw, a, b⟩ := sp _ _ hs
    exact ⟨s, sw, hs, a, b⟩
  cases cm with
  | make m z =>
    show lookI W.sp m = none
    rcases one_look (n := m) SO.sp with ⟨l1, _⟩ | ⟨sw, sp, l1, l2, OO⟩
    · exact l1
    · have e' : (if (lookI st.sp m).isSome = true then ("exists" : Str) else ("" : Str)) = "" := e
      rw [l2, if_pos (show (some sp).isSome = true from rfl)] at e'
      exact ns_e (x := "exists") (by decide +kernel) e'
  | remove m => obtain ⟨s, sw, _, a, _⟩ := has (fun e => wstr (x := "remove") e (by decide +kernel)) (fun e => wstr (x := "remove") e (by decide +kernel)); exact ⟨sw, a⟩
  | write m p v => obtain ⟨s, sw, _, a, _⟩ := has (fun e => wstr (x := "write") e (by decide +kernel)) (fun e => wstr (x := "write") e (by decide +kernel)); exact ⟨sw, a⟩
  | snap m => obtain ⟨s, sw, _, a, _⟩ := has (fun e => wstr (x := "snap") e (by decide +kernel)) (fun e => wstr (x := "snap") e (by decide +kernel)); exact ⟨sw, a⟩
  | reserve m wy => obtain ⟨s, sw, _, a, _⟩ := has (fun e => wstr (x := "reserve") e (by decide +kernel)) (fun e => wstr (x := "reserve") e (by decide +kernel)); exact ⟨sw, a⟩
  | release m => obtain ⟨s, sw, _, a, _⟩ := has (fun e => wstr (x := "release") e (by decide +kernel)) (fun e => wstr (x := "release") e (by decide +kernel)); exact ⟨sw, a⟩
  | read m p => exact absurd rfl ne
  | view m k p => exact absurd rfl ne
  | flush => exact absurd rfl ne
  | trim m p =>
    obtain ⟨s, sw, l, a, OO⟩ := has (fun e => wstr (x := "trim") e (by decide +kernel)) (fun e => wstr (x := "trim") e (by decide +kernel))
    refine ⟨sw, a, ?_⟩
    have l' : lookI st.sp m = some s := l
    have ec : s.cs = sw.cs := OO.cs
    cases hl : lookI sw.cs p with
    | some v => exact ⟨v, rfl⟩
    | none =>
      exfalso; apply ne
      show ((lookI st.sp m).bind fun s => if trimN s (.trim m p) = true then none else fldIn s h (.trim m p)) = none
      rw [l']
      show (if trimN s (.trim m p) = true then none else fldIn s h (.trim m p)) = none
      rw [if_pos]
      show (lookI s.cs p).isNone = true
      rw [ec, hl]; rfl
  | drop m k =>
    have n1 : ¬ cmS (.drop m k) = "flush" := fun e => wstr (x := "drop") e (by decide +kernel)
    have n2 : ¬ cmS (.drop m k) = "make" := fun e => wstr (x := "drop") e (by decide +kernel)
    obtain ⟨s, sw, l, a, OO⟩ := has n1 n2
    refine ⟨⟨sw, a⟩, ?_⟩
    have et := (ref_in e n1 n2 l).2
    cases hl : lookI W.sn (m, k) with
    | some x => exact ⟨x, rfl⟩
    | none =>
      exfalso
      unfold tailW at et
      rw [if_pos] at et
      · exact ns_e (x := "none") (by decide +kernel) et
      · show (lookI st.sn (m, k)).isNone = true
        rw [SO.sn, sn_look, hl]; rfl
  | register m =>
    have n1 : ¬ cmS (.register m) = "flush" := fun e => wstr (x := "register") e (by decide +kernel)
    have n2 : ¬ cmS (.register m) = "make" := fun e => wstr (x := "register") e (by decide +kernel)
    obtain ⟨s, sw, l, a, OO⟩ := has n1 n2
    refine ⟨sw, a, ?_⟩
    have l' : lookI st.sp m = some s := l
    rw [← OO.rg.look (WK.kn _ (Sg.look_mem a))]
    cases hl : look s.rg h with
    | none => rfl
    | some v =>
      exfalso; apply ne
      show ((lookI st.sp m).bind fun s => if trimN s (.register m) = true then none else fldIn s h (.register m)) = none
      rw [l']
      show fldIn s h (.register m) = none
      unfold fldIn
      rw [if_pos]
      unfold idle
      rw [hl, show decide (cmS (.register m) = "register") = true from decide_eq_true rfl]; rfl
  | leave m =>
    have n1 : ¬ cmS (.leave m) = "flush" := fun e => wstr (x := "leave") e (by decide +kernel)
    have n2 : ¬ cmS (.leave m) = "make" := fun e => wstr (x := "leave") e (by decide +kernel)
    obtain ⟨s, sw, l, a, OO⟩ := has n1 n2
    refine ⟨sw, a, ?_⟩
    rw [← OO.rg.look (WK.kn _ (Sg.look_mem a))]
    exact reg_look (due_reg (ref_in e n1 n2 l).1 (show strIn "leave" registeredL = true by decide +kernel))
  | preempt m v =>
    have n1 : ¬ cmS (.preempt m v) = "flush" := fun e => wstr (x := "preempt") e (by decide +kernel)
    have n2 : ¬ cmS (.preempt m v) = "make" := fun e => wstr (x := "preempt") e (by decide +kernel)
    obtain ⟨s, sw, l, a, OO⟩ := has n1 n2
    refine ⟨sw, a, ?_⟩
    rw [← OO.rg.look (WK.kn _ (Sg.look_mem a))]
    have r := due_reg (ref_in e n1 n2 l).1 (show strIn "preempt" registeredL = true by decide +kernel)
    have hk := reg_look r
    unfold regDue at r
    rw [if_neg hk, if_neg (show ¬ cmS (.preempt m v) = "reserve" from (show ¬ ("preempt" : Str) = "reserve" by decide +kernel)), if_neg (show ¬ cmS (.preempt m v) = "release" from (show ¬ ("preempt" : Str) = "release" by decide +kernel)), if_pos (show cmS (.preempt m v) = "preempt" from rfl)] at r
    have r : preDue s.rg h v = "" := r
    unfold preDue at r
    intro z
    by_cases ev : v = h
    · rw [if_pos ev] at r; exact ns_e (x := "conflict") (by decide +kernel) r
    · rw [if_neg ev, if_pos z] at r; exact ns_e (x := "none") (by decide +kernel) r
end Sg.Fe

set_option Elab.async false
set_option linter.all false
set_option maxRecDepth 100000
set_option maxHeartbeats 4000000
namespace Sg.Fe
open PySem PySem.Spec PyProof.Rows L2
/-! ### the law -/
theorem bt_tuple : bootBuiltins "tuple" = some (.type "tuple") := by decide +kernel
theorem u80_of {k : Nat} {A : Around} (hr : Room k A) : A.units + 80 < cLine := by have := hr.un; omega
theorem WoOk.mono {n m : Nat} {w : Addr} {W : Wo} (k : WoOk n w W) (l : n ≤ m) : WoOk m w W := ⟨k.nd, k.kn, k.om, Nat.le_trans k.sps l, Nat.le_trans k.sns l, fun p hp => Nat.le_trans (k.css p hp) l, fun p hp => Nat.le_trans (k.kss p hp) l, fun p hp => Nat.le_trans (k.cns p hp) l⟩
/-- what stands while the law runs -/
structure WJ (K : PySem.W.Frag) (H : Hp) (p q w : Addr) (W : Wo) (n : Nat) : Prop where
  tp : TapeAt K H p q
  wa : WoAt K H w W
  wk : WoOk n w W
  po : p ∉ own w W
  qo : q ∉ own w W
  qs : ∃ u, H q = some u
section
variable {K : PySem.W.Frag} {H H' : Hp} {p q w : Addr} {W : Wo} {n : Nat}
theorem TapeAt.qp (h : TapeAt K H p q) : q ≠ p := by
  obtain ⟨_, _, _, _, _, _, z, _⟩ := h
  exact z
theorem WJ.same (h : WJ K H p q w W n) (s : Same H H') : WJ K H' p q w W n := ⟨h.tp.same s, h.wa.same s, h.wk, h.po, h.qo, by obtain ⟨u, hu⟩ := h.qs; exact ⟨u, s _ _ hu⟩⟩
theorem WJ.off (h : WJ K H p q w W n) (o : Off [p] H H') (t : TapeAt K H' p q) : WJ K H' p q w W n :=
  ⟨t, h.wa.off (h.tp.tk o) o h.wk.nd (fun b hb m => h.po (List.mem_singleton.mp m ▸ hb)), h.wk, h.po, h.qo, by obtain ⟨u, hu⟩ := h.qs; exact ⟨u, o _ _ hu (by simpa using h.tp.qp)⟩⟩
theorem WJ.chg {W' : Wo} (h : WJ K H p q w W n) (c : Chg K n w W H H' W') : WJ K H' p q w W' (n + 1) := by
  refine ⟨h.tp.off c.of h.po h.qo, c.wa, c.wk, fun m => ?_, fun m => ?_, by obtain ⟨u, hu⟩ := h.qs; exact ⟨u, c.of _ _ hu h.qo⟩⟩
  · rcases c.ow _ m with z | z
    · exact h.po z
    · obtain ⟨l, hl⟩ := h.tp.lst
      rw [hl] at z; cases z
  · rcases c.ow _ m with z | z
    · exact h.qo z
    · obtain ⟨u, hu⟩ := h.qs
      rw [hu] at z; cases z
theorem StOf.stw {W : Wo} {st : Sta} {w : Addr} (SO : StOf W st) (k : WoOk n w W) (hn : n ≤ 100) : StW st := by
  have pm : ∀ {l : List (Int × Sw)} {m : List (Int × Spc)}, Paired OneOf l m → ∀ p ∈ m, ∃ sw ∈ l, OneOf sw p := fun {l m} pr => by
    induction pr with
    | nil => intro p hp; cases hp
    | cons a b ih =>
      intro p hp
      rcases List.mem_cons.mp hp with rfl | hp
      · exact ⟨_, List.mem_cons_self, a⟩
      · obtain ⟨sw, h1, h2⟩ := ih p hp
        exact ⟨sw, List.mem_cons_of_mem _ h1, h2⟩
  refine ⟨fun p hp => ?_, ?_⟩
  · obtain ⟨sw, h1, h2⟩ := pm SO.sp p hp
    exact h2.rg.nd (k.kn _ h1)
  · rw [SO.sn, List.length_map]
    exact Nat.le_trans k.sns (by omega)
theorem StOf.holds {W : Wo} {st : Sta} (SO : StOf W st) (WA : WoAt K H w W) : ∀ p ∈ st.sp, ∀ h wy, p.2.hd = some (h, wy) → PyData.strOk wy = true := by
  have pm : ∀ {l : List (Int × Sw)} {m : List (Int × Spc)}, Paired OneOf l m → ∀ p ∈ m, ∃ sw ∈ l, OneOf sw p := fun {l m} pr => by
    induction pr with
    | nil => intro p hp; cases hp
    | cons a b ih =>
      intro p hp
      rcases List.mem_cons.mp hp with rfl | hp
      · exact ⟨_, List.mem_cons_self, a⟩
      · obtain ⟨sw, h1, h2⟩ := ih p hp
        exact ⟨sw, List.mem_cons_of_mem _ h1, h2⟩
  intro p hp h wy e
  obtain ⟨sw, h1, h2⟩ := pm SO.sp p hp
  obtain ⟨hv, _, hh, _⟩ := WA.ins _ h1
  rw [← h2.hd, e] at hh
  obtain ⟨_, _, _, ok⟩ := (show ∃ q, hv = .ref q ∧ SqT K H q [.int h, .str wy] ∧ PyData.strOk wy = true from hh)
  exact ok
theorem StOf.has {W : Wo} {st : Sta} {cm : Cm} {h : Int} {key : Option Int} (SO : StOf W st) (e : refW st h key cm = "") : Has W cm := fun h1 h2 => by
  obtain ⟨s, hs⟩ := ref_sp e h1 h2
  rcases one_look (n := nsC cm) SO.sp with ⟨_, l2⟩ | ⟨sw, sp, l1, _, _⟩
  · rw [l2] at hs; cases hs
  · exact ⟨sw, l1⟩
end
theorem _root_.Sg.AnsAt.tk {K : PySem.W.Frag} {H H' : Hp} {t : Addr} {w : Str} {x : Option Int} {fs : Option (List V)} (h : AnsAt K H t w x fs) (s : TK H H') : AnsAt K H' t w x fs := by
  obtain ⟨t1, fv, a, b, c⟩ := h
  exact ⟨t1, fv, s.t _ _ a, s.t _ _ b, c.tk s⟩
def spLaw (K : PySem.W.Frag) : Sp := fun vs H Q _ => ∃ (a : Addr) (ns : List Int), vs = [.ref a] ∧ SqL K H a (ns.map V.int) ∧ ns.length ≤ 63 ∧ ∀ H', Q (.bl true) H'
section
variable {P : Program} {wd : World} {K : PySem.W.Frag} {mg : Str → Option Value} {base : Heap} {f fN fC fK fS fA fR fI fV fF fX : Addr} {fd fdN fdC fdK fdS fdA fdR fdI fdV fdF fdX : FuncData}
theorem scLaw : FnScope ["script", "tape", "world", "turn", "host", "command", "key", "state", "told", "word", "due", "idle", "value"] ["script"] (defScope sLaw) := ⟨rfl, rfl, rfl, by decide +kernel, rfl, by decide +kernel, by decide +kernel⟩
theorem ok_law (F : Fun K "law" "law" sLaw f fd) (B : LB mg) (I : BI mg) (GN : Def P wd K mg base CX0 "_law_next" 1 ["tape", "many"] (spNext K) fN fdN) (GC : Def P wd K mg base CX0 "_law_command" 2 ["tape"] (spCommand K) fC fdC)
    (GK : Def P wd K mg base CX0 "_law_key" 2 ["world", "host", "command", "tape"] (spLKy K) fK fdK) (GS : Def P wd K mg base CX0 "_law_state" 2 ["world"] (spLState K) fS fdS) (GA : Def P wd K mg base CX0 "answer_due" 6 ["state", "host", "key", "command", "order"] (spAnswer K) fA fdA)
    (GR : Def P wd K mg base CX0 "_law_refused" 3 ["world", "host", "key", "command"] (spLRef K) fR fdR) (GI : Def P wd K mg base CX0 "_law_idle" 1 ["world", "host", "command"] (spLIdle K) fI fdI) (GV : Def P wd K mg base CX0 "_law_value" 1 ["world", "host", "command"] (spLVal K) fV fdV)
    (GF : Def P wd K mg base CX0 "_law_fields" 1 ["world", "host", "command"] (spLFields K) fF fdF) (GX : Def P wd K mg base CX0 "_law_change" 2 ["world", "host", "command"] (spLChange K) fX fdX) : FnOk P wd K mg base CX0 7 f fd ["script"] (spLaw K) := by
  refine F.ok scLaw (fun vs H Q E h => ?_) (fun cdv A outer s H vs Q E hr h => ?_)
  · obtain ⟨a, ns, rfl, _⟩ := h
    rfl
  · obtain ⟨a, ns, rfl, hS, hlen, k⟩ := h
    have hr1 : Room 1 _ := hr.mono (by decide)
    have hr2 : Room 2 _ := hr.mono (by decide)
    have hr3 : Room 3 _ := hr.mono (by decide)
    refine ⟨_, (pss_cons (ps_set (i := 1) scLaw.nd rfl (Or.inl rfl) (pe_lst (pa_cons (pe_callTy call_list_of (by rfl) B.list (by decide +kernel) (pa_cons (pv 0) pa_nil)) (pa_cons pe_int (pa_cons pe_int (pa_cons pe_int pa_nil))))))
      (pss_cons (ps_set (i := 2) scLaw.nd rfl (Or.inl rfl) (pe_lst (pa_cons pe_dnewK (pa_cons pe_dnewT (pa_cons (pe_call GN.ok hr1 (by rfl) GN.mg GN.kp GN.bd .nil pass0 (pa_cons (pv 1) (pa_cons pe_int pa_nil))) pa_nil)))))
      (Evl.pss_cut (ps_if (pt_cmpR op_gt (pe_call GN.ok hr1 (by rfl) GN.mg GN.kp GN.bd .nil pass0 (pa_cons (pv 1) (pa_cons pe_int pa_nil))) pe_int (nomark _))
      (pss_one (ps_expr (pe_call GX.ok hr2 (by rfl) GX.mg GX.kp GX.bd .nil pass0 (pa_cons (pv 2) (pa_cons pe_int (pa_cons (pe_tup (pa_cons pe_str (pa_cons pe_int (pa_cons pe_int pa_nil)))) pa_nil)))))) pss_nil)
      (pss_cons (ps_for PassesOwn.never rfl (pi_range1 (by rfl) B.range (pa_cons (pe_op op_add pe_int (pe_call GN.ok hr1 (by rfl) GN.mg GN.kp GN.bd .nil pass0 (pa_cons (pv 1) (pa_cons pe_int pa_nil)))) pa_nil)) (pg_name (i := 3) scLaw.nd rfl (Or.inl rfl))
      (pss_cons (ps_set (i := 4) scLaw.nd rfl (Or.inl rfl) (pe_call GN.ok hr1 (by rfl) GN.mg GN.kp GN.bd .nil pass0 (pa_cons (pv 1) (pa_cons pe_int pa_nil))))
      (pss_cons (ps_set (i := 5) scLaw.nd rfl (Or.inl rfl) (pe_call GC.ok hr2 (by rfl) GC.mg GC.kp GC.bd .nil pass0 (pa_cons (pv 1) pa_nil)))
      (pss_cons (ps_set (i := 6) scLaw.nd rfl (Or.inl rfl) (pe_call GK.ok hr2 (by rfl) GK.mg GK.kp GK.bd .nil pass0 (pa_cons (pv 2) (pa_cons (pv 4) (pa_cons (pv 5) (pa_cons (pv 1) pa_nil))))))
      (pss_cons (ps_set (i := 7) scLaw.nd rfl (Or.inl rfl) (pe_call GS.ok hr2 (by rfl) GS.mg GS.kp GS.bd .nil pass0 (pa_cons (pv 2) pa_nil)))
      (pss_cons (ps_set (i := 8) scLaw.nd rfl (Or.inl rfl) (pe_call GA.ok hr (by rfl) GA.mg GA.kp GA.bd .nil pass0 (pa_cons (pv 7) (pa_cons (pv 4) (pa_cons (pv 6) (pa_cons (pv 5) (pa_cons (pe_op op_add (pe_ix ix_list (pv 2) pe_int (fun _ _ => rfl)) pe_int) pa_nil)))))))
      (pss_cons (ps_if (PW.pt (pw_or (pt_cmpR (op_neS (u80_of hr)) (pv 7) (pe_call GS.ok hr2 (by rfl) GS.mg GS.kp GS.bd .nil pass0 (pa_cons (pv 2) pa_nil)) (nomark _)) (pw_or (pt_not (pt_val (pe_callB call_isi (by rfl) I.isi bt_isi (pa_cons (pv 8) (pa_cons (pe_bltn (v := .ty "tuple") (by rfl) B.tuple bt_tuple rfl) pa_nil))))) (pw_or1 (pt_cmpR op_ne (pe_callB call_len_seq (by rfl) B.len PySem.boot_len (pa_cons (pv 8) pa_nil)) pe_int (nomark _))))))
      (pss_one (ps_ret pe_bl)) pss_nil)
      (pss_cons (ps_set (i := 9) scLaw.nd rfl (Or.inl rfl) pe_str)
      (Evl.pss_cut (ps_if (pt_cmpR op_ne (pe_ix ix_tup (pv 5) pe_int (fun _ _ => rfl)) pe_str (nomark _))
      (pss_one (ps_set (i := 9) scLaw.nd rfl (Or.inl rfl) (pe_call GR.ok hr3 (by rfl) GR.mg GR.kp GR.bd .nil pass0 (pa_cons (pv 2) (pa_cons (pv 4) (pa_cons (pv 6) (pa_cons (pv 5) pa_nil))))))) pss_nil)
      (pss_cons (ps_set (i := 10) scLaw.nd rfl (Or.inl rfl) (pe_tup (pa_cons (pe_tup (pa_cons (pv 9) (pa_cons pe_non pa_nil))) (pa_cons pe_non pa_nil))))
      (Evl.pss_cut (ps_if (pt_cmpR op_eq (pv 9) pe_str (nomark _))
      (pss_cons (ps_set (i := 11) scLaw.nd rfl (Or.inl rfl) (pe_call GI.ok hr1 (by rfl) GI.mg GI.kp GI.bd .nil pass0 (pa_cons (pv 2) (pa_cons (pv 4) (pa_cons (pv 5) pa_nil)))))
      (pss_cons (ps_set (i := 12) scLaw.nd rfl (Or.inl rfl) pe_non)
      (Evl.pss_cut (ps_if (pt_cmpR op_ne (pe_ix ix_tup (pv 5) pe_int (fun _ _ => rfl)) pe_str (nomark _))
      (pss_one (ps_set (i := 12) scLaw.nd rfl (Or.inl rfl) (pe_call GV.ok hr1 (by rfl) GV.mg GV.kp GV.bd .nil pass0 (pa_cons (pv 2) (pa_cons (pv 4) (pa_cons (pv 5) pa_nil)))))) pss_nil)
      (pss_cons (ps_set (i := 10) scLaw.nd rfl (Or.inl rfl) (pe_tup (pa_cons (pe_tup (pa_cons pe_str (pa_cons (pv 12) pa_nil))) (pa_cons pe_non pa_nil))))
      (pss_one (ps_if (pt_not (pt_val (pv 11)))
      (pss_cons (ps_set (i := 10) scLaw.nd rfl (Or.inl rfl) (pe_tup (pa_cons (pe_tup (pa_cons pe_str (pa_cons (pv 12) pa_nil))) (pa_cons (pe_call GF.ok hr1 (by rfl) GF.mg GF.kp GF.bd .nil pass0 (pa_cons (pv 2) (pa_cons (pv 4) (pa_cons (pv 5) pa_nil)))) pa_nil))))
      (pss_one (ps_expr (pe_call GX.ok hr2 (by rfl) GX.mg GX.kp GX.bd .nil pass0 (pa_cons (pv 2) (pa_cons (pv 4) (pa_cons (pv 5) pa_nil))))))) pss_nil)))))) pss_nil)
      (pss_one (ps_if (PW.pt (pw_or (pt_cmpR (op_neD hr.units) (pv 8) (pv 10) (nomark _)) (pw_or1 (pt_val (pe_callB call_isi (by rfl) I.isi bt_isi (pa_cons (pe_ix ix_tup (pe_ix ix_tup (pv 8) pe_int (fun _ _ => rfl)) pe_int (fun _ _ => rfl)) (pa_cons (pe_bltn (v := .ty "bool") (by rfl) I.bool bt_bool rfl) pa_nil)))))))
      (pss_one (ps_ret pe_bl)) pss_nil)))))))))))))
      (pss_one (ps_ret pe_bl)))))), ?_⟩
    refine ⟨_, rfl, a, _, rfl, .inl hS, fun q hq => ?_⟩
    have sq := same_new (o := .lst (ns.map V.int)) hq
    refine ⟨by show 4 ≤ sizeLine; decide, fun p hp => ?_⟩
    have sp := same_new (o := .lst [.ref q, .int 0, .int 0, .int 11]) hp
    have tp0 : TapeAt K (upd (upd H q (.lst (ns.map V.int))) p (.lst [.ref q, .int 0, .int 0, .int 11])) p q :=
      ⟨ns, 0, 0, 11, upd_same, SqL.of (sp _ _ upd_same), ne_of_none upd_same hp, by decide, by decide, by decide⟩
    have hq1 : upd (upd H q (.lst (ns.map V.int))) p (.lst [.ref q, .int 0, .int 0, .int 11]) q = some (.lst (ns.map V.int)) := sp _ _ upd_same
    generalize hH0 : upd (upd H q (.lst (ns.map V.int))) p (.lst [.ref q, .int 0, .int 0, .int 11]) = H0 at tp0 hq1
    clear hH0 sp sq hp hq hS
    intro S0 hS0 N0 hN0
    have s1 := same_new (o := .dK []) hS0
    have s2 := same_new (o := .dT []) hN0
    have gS := s2 _ _ (show (upd H0 S0 (.dK [])) S0 = some (.dK []) from upd_same)
    have gN : (upd (upd H0 S0 (.dK [])) N0 (.dT [])) N0 = some (.dT []) := upd_same
    have xN := none_back hN0
    have yNS : N0 ≠ S0 := ne_back hN0
    have tp2 := tp0.same (s1.trans s2)
    have hq2 := (s1.trans s2) _ _ hq1
    generalize upd (upd H0 S0 (.dK [])) N0 (.dT []) = H2 at gS gN tp2 hq2
    obtain ⟨lp, hlp⟩ := tp0.lst
    have Sp : S0 ≠ p := fun z => by rw [z, hlp] at hS0; cases hS0
    have Np : N0 ≠ p := fun z => by rw [z, hlp] at xN; cases xN
    have Sq : S0 ≠ q := fun z => by rw [z, hq1] at hS0; cases hS0
    have Nq : N0 ≠ q := fun z => by rw [z, hq1] at xN; cases xN
    clear s1 s2 hS0 hN0 xN hlp hq1 tp0
    refine ⟨_, rfl, p, q, 4, rfl, tp2, by decide, by decide, fun r H3 _ _ o3 t3 => ⟨by show 3 ≤ sizeLine; decide, fun w hw => ?_⟩⟩
    have gS3 := o3 _ _ gS (by simpa using Sp)
    have gN3 := o3 _ _ gN (by simpa using Np)
    have gq3 := o3 _ _ hq2 (by simpa using tp2.qp)
    have s4 := same_new (o := .lst [.ref S0, .ref N0, .int r]) hw
    obtain ⟨lp, hlp⟩ := t3.lst
    have wp : w ≠ p := fun z => by rw [z, hlp] at hw; cases hw
    have wq : w ≠ q := fun z => by rw [z, gq3] at hw; cases hw
    have wS : w ≠ S0 := fun z => by rw [z, gS3] at hw; cases hw
    have wN : w ≠ N0 := fun z => by rw [z, gN3] at hw; cases hw
    have J4 : WJ K (upd H3 w (.lst [.ref S0, .ref N0, .int r])) p q w ⟨S0, N0, [], [], r⟩ 0 :=
      ⟨t3.same s4, ⟨⟨upd_same, fun _ h => (nomatch h), fun _ h => (nomatch h)⟩, ⟨[], s4 _ _ gS3, .nil, List.nodup_nil⟩, ⟨[], s4 _ _ gN3, .nil, List.nodup_nil⟩⟩,
        ⟨by simp [own, wS, wN, fun z : S0 = N0 => yNS z.symm, yNS.symm], fun _ h => (nomatch h), fun _ h => (nomatch h), Nat.le_refl _, Nat.le_refl _, fun _ h => (nomatch h), fun _ h => (nomatch h), fun _ h => (nomatch h)⟩,
        by simp [own, wp.symm, Sp.symm, Np.symm], by simp [own, wq.symm, Sq.symm, Nq.symm], ⟨_, s4 _ _ gq3⟩⟩
    generalize upd H3 w (.lst [.ref S0, .ref N0, .int r]) = H4 at J4
    clear gS3 gN3 gq3 s4 hw hlp wp wq wS wN t3 o3 gS gN tp2 hq2 Sp Np Sq Nq yNS
    -- the first command
    refine ⟨fun σ' G => ∃ W, σ' = [some (.ref a), some (.ref p), some (.ref w), none, none, none, none, none, none, none, none, none, none] ∧ WJ K G p q w W 1, ?_, ?_⟩
    · refine ⟨_, rfl, p, q, 4, rfl, J4.tp, by decide, by decide, fun r H5 _ _ o5 t5 => ⟨_, _, rfl, rfl, _, rfl, ?_⟩⟩
      have J5 := J4.off o5 t5
      refine ite2 (fun hz => ?_) (fun hz => ⟨_, rfl, ⟨J5.tp, J5.wa, J5.wk.mono (by decide), J5.po, J5.qo, J5.qs⟩⟩)
      refine ⟨_, rfl, by show 3 ≤ sizeLine; decide, fun t ht => ?_⟩
      have s6 := same_new (o := .tup [.str "make", .int 3, .int 5]) ht
      have J6 := J5.same s6
      refine ⟨w, _, 0, 0, t, .make 3 5, rfl, J6.wa, J6.wk, by decide, SqT.of upd_same, trivial, rfl, fun W' H' C => ⟨W', rfl, J6.chg C⟩⟩
    rintro σ' G ⟨W, rfl, JW⟩
    -- the turns
    refine ⟨_, rfl, p, q, 24, rfl, JW.tp, by decide, by decide, fun m H5 m0 m1 o5 t5 => ⟨_, _, rfl, rfl, _, rfl, by omega, by omega, ?_⟩⟩
    have JX := JW.off o5 t5
    refine for_range (lo := 0) (fun i σ G => ∃ (W : Wo) (v3 v4 v5 v6 v7 v8 v9 v10 v11 v12 : Option V), σ = [some (.ref a), some (.ref p), some (.ref w), v3, v4, v5, v6, v7, v8, v9, v10, v11, v12] ∧ WJ K G p q w W (i + 1))
      ⟨W, _, _, _, _, _, _, _, _, _, _, rfl, JX⟩ ?_ ?_
    · rintro i σ G hi ⟨W, v3, v4, v5, v6, v7, v8, v9, v10, v11, v12, rfl, J⟩
      have hi25 : i < 25 := by omega
      -- host, command, key
      refine ⟨_, rfl, p, q, 4, rfl, J.tp, by decide, by decide, fun host H6 _ _ o6 t6 => ?_⟩
      have J6 := J.off o6 t6
      refine ⟨_, rfl, p, q, rfl, t6, fun c cm H7 o7 t7 hc7 oc => ?_⟩
      have J7 := J6.off o7 t7
      refine ⟨_, rfl, _, rfl, _, rfl, _, rfl, w, W, i + 1, host, c, cm, p, q, rfl, J7.wa, J7.wk, hc7, t7, fun key H8 o8 t8 => ?_⟩
      have J8 := J7.off o8 t8
      have hc8 : CmdAt K H8 c cm := sqT_tk hc7 (J7.tp.tk o8)
      -- the state, the answer
      refine ⟨_, rfl, w, W, i + 1, rfl, J8.wa, J8.wk, by omega, fun sa st H9 s9 SO SA => ?_⟩
      have J9 := J8.same s9
      have hc9 : CmdAt K H9 c cm := SqT_same s9 hc8
      have SW := SO.stw J8.wk (by omega)
      have HO := SO.holds J9.wa
      refine ⟨_, rfl, _, rfl, _, rfl, _, rfl, _, rfl, w, _, _, _, rfl, rfl, SqL.of J9.wa.top, atI_nat (j := 2) rfl, _, _, rfl, rfl, sa, st, host, key, c, cm, W.o + 1, rfl, SA, SW, hc9, oc, fun told H10 s10 AA => ?_⟩
      have J10 := J9.same s10
      have hc10 : CmdAt K H10 c cm := SqT_same s10 hc9
      -- the state that was passed stays, the answer is a pair
      refine ⟨_, rfl, _, rfl, w, W, i + 1, rfl, J10.wa, J10.wk, by omega, fun sb st2 H11 s11 SO2 SB => ?_⟩
      obtain rfl := SO2.one SO
      have J11 := J10.same s11
      have hc11 : CmdAt K H11 c cm := SqT_same s11 hc10
      obtain ⟨ks, ls, q1, q2, q3, q4⟩ := state_eq ((SA.same s10).same s11) SB (by rw [SO2.mr]; intro p hp; cases hp)
      obtain ⟨t1, fv, A1, A2, A3⟩ := AA
      have A1 := s11 _ _ A1
      have A2 := s11 _ _ A2
      have A3 := A3.tk (TK.of s11)
      refine ⟨5, sa, sb, ks, ls, by decide, rfl, rfl, q1, q2, q3, q4, _, rfl, chooseF rfl ?_⟩
      refine ⟨_, rfl, _, _, _, _, true, rfl, .ty "tuple", .base (.tup A1), kit_ty (by decide +kernel), _, rfl, chooseF rfl ?_⟩
      refine ⟨_, rfl, told, _, rfl, .inr (SqT.of A1), rfl, _, rfl, chooseF rfl ?_⟩
      have AA : AnsAt K H11 told (ansW st2 host key cm (W.o + 1)).1 (ansW st2 host key cm (W.o + 1)).2.1 (ansW st2 host key cm (W.o + 1)).2.2 := ⟨t1, fv, A1, A2, A3⟩
      clear A1 A2 A3
      have okA : PyData.strOk (ansW st2 host key cm (W.o + 1)).1 = true ∧ okL (ansW st2 host key cm (W.o + 1)).2.2 := by
        unfold ansW
        split
        · exact ⟨(show PyData.strOk "ok" = true by decide +kernel), fld_ok oc HO⟩
        · exact ⟨ref_ok, fun xs e => nomatch e⟩
      have q3' := q3
      clear q1 q2 q3 q4 q3'
      -- the word
      refine ⟨fun σ' G => σ' = [some (.ref a), some (.ref p), some (.ref w), some (.int (0 + (i : Int))), some (.int host), some (.ref c), some (optI key), some (.ref sa), some (.ref told), some (.str (refW st2 host key cm)), v10, v11, v12] ∧ Same H11 G, ?_, ?_⟩
      · refine ⟨_, rfl, c, _, _, _, rfl, rfl, hc11, atI_nat (j := 0) rfl, rfl, _, rfl, ?_⟩
        by_cases nf : cmS cm = "flush"
        · obtain rfl := cm_flush nf
          exact chooseF (by rw [nf, str_eqT]; rfl) ⟨rfl, Same.refl _⟩
        · refine chooseT (by rw [str_eqF nf]; rfl) ⟨_, rfl, _, rfl, _, rfl, _, rfl, w, W, i + 1, st2, host, key, c, cm, rfl, J11.wa, J11.wk, by omega, SO, hc11, oc, nf, fun G s => ⟨rfl, s⟩⟩
      rintro σ' G1 ⟨rfl, g1⟩
      have J12 := J11.same g1
      have hc12 : CmdAt K G1 c cm := SqT_same g1 hc11
      have AA12 := AA.tk (TK.of g1)
      refine ⟨_, rfl, by show 2 ≤ sizeLine; decide, fun d1 h1 => ⟨by show 2 ≤ sizeLine; decide, fun d2 h2 => ?_⟩⟩
      have u1 := same_new (o := .tup [.str (refW st2 host key cm), .non]) h1
      have u2 := same_new (o := .tup [.ref d1, .non]) h2
      have w1 := u2 _ _ (show (upd G1 d1 (.tup [.str (refW st2 host key cm), .non])) d1 = some (.tup [.str (refW st2 host key cm), .non]) from upd_same)
      have w2 : (upd (upd G1 d1 (.tup [.str (refW st2 host key cm), .non])) d2 (.tup [.ref d1, .non])) d2 = some (.tup [.ref d1, .non]) := upd_same
      have u12 := u1.trans u2
      show Evl.tCut _ _ _ _ (upd (upd G1 d1 (.tup [.str (refW st2 host key cm), .non])) d2 (.tup [.ref d1, .non]))
      generalize upd (upd G1 d1 (.tup [.str (refW st2 host key cm), .non])) d2 (.tup [.ref d1, .non]) = G2 at w1 w2 u12
      have J13 := J12.same u12
      have hc13 : CmdAt K G2 c cm := SqT_same u12 hc12
      have AA13 := AA12.tk (TK.of u12)
      -- what is due
      refine ⟨fun σ' G => ∃ (W' : Wo) (d : Addr) (v11 v12 : Option V), σ' = [some (.ref a), some (.ref p), some (.ref w), some (.int (0 + (i : Int))), some (.int host), some (.ref c), some (optI key), some (.ref sa), some (.ref told), some (.str (refW st2 host key cm)), some (.ref d), v11, v12] ∧ WJ K G p q w W' (i + 2) ∧
        AnsAt K G told (ansW st2 host key cm (W.o + 1)).1 (ansW st2 host key cm (W.o + 1)).2.1 (ansW st2 host key cm (W.o + 1)).2.2 ∧ AnsAt K G d (ansW st2 host key cm (W.o + 1)).1 (ansW st2 host key cm (W.o + 1)).2.1 (ansW st2 host key cm (W.o + 1)).2.2, ?_, ?_⟩
      · refine ⟨_, rfl, rfl, _, rfl, ?_⟩
        by_cases e : refW st2 host key cm = ""
        · refine chooseT (decide_eq_true (by rw [e])) ?_
          have ea : ansW st2 host key cm (W.o + 1) = (("ok" : Str), valW st2 host (W.o + 1) cm, fldW st2 host cm) := if_pos e
          rw [ea] at AA13 ⊢
          have hs := SO.has e
          refine ⟨_, rfl, _, rfl, _, rfl, w, W, i + 1, st2, host, c, cm, rfl, J13.wa, J13.wk, SO, hc13, oc, hs, fun G3 g3 => ?_⟩
          have J14 := J13.same g3
          have hc14 : CmdAt K G3 c cm := SqT_same g3 hc13
          refine ⟨fun σ' G => σ' = [some (.ref a), some (.ref p), some (.ref w), some (.int (0 + (i : Int))), some (.int host), some (.ref c), some (optI key), some (.ref sa), some (.ref told), some (.str (refW st2 host key cm)), some (.ref d2), some (.bl (fldW st2 host cm).isNone), some (oV (valW st2 host (W.o + 1) cm))] ∧ Same G3 G, ?_, ?_⟩
          · refine ⟨_, rfl, c, _, _, _, rfl, rfl, hc14, atI_nat (j := 0) rfl, rfl, _, rfl, ?_⟩
            by_cases nf : cmS cm = "flush"
            · obtain rfl := cm_flush nf
              exact chooseF (by rw [nf, str_eqT]; rfl) ⟨rfl, Same.refl _⟩
            · exact chooseT (by rw [str_eqF nf]; rfl) ⟨_, rfl, _, rfl, _, rfl, w, W, i + 1, st2, host, c, cm, rfl, J14.wa, J14.wk, SO, hc14, nf, hs, ref_sn e, fun G s => ⟨rfl, s⟩⟩
          rintro σ' G4 ⟨rfl, g4⟩
          have J15 := J14.same g4
          have hc15 : CmdAt K G4 c cm := SqT_same g4 hc14
          have AA15 := (AA13.tk (TK.of g3)).tk (TK.of g4)
          refine ⟨_, rfl, by show 2 ≤ sizeLine; decide, fun d3 h3 => ⟨by show 2 ≤ sizeLine; decide, fun d4 h4 => ?_⟩⟩
          have u3 := same_new (o := .tup [.str "ok", oV (valW st2 host (W.o + 1) cm)]) h3
          have u4 := same_new (o := .tup [.ref d3, .non]) h4
          have w3 := u4 _ _ (show (upd G4 d3 (.tup [.str "ok", oV (valW st2 host (W.o + 1) cm)])) d3 = some (.tup [.str "ok", oV (valW st2 host (W.o + 1) cm)]) from upd_same)
          have w4 : (upd (upd G4 d3 (.tup [.str "ok", oV (valW st2 host (W.o + 1) cm)])) d4 (.tup [.ref d3, .non])) d4 = some (.tup [.ref d3, .non]) := upd_same
          have u34 := u3.trans u4
          generalize upd (upd G4 d3 (.tup [.str "ok", oV (valW st2 host (W.o + 1) cm)])) d4 (.tup [.ref d3, .non]) = G5 at w3 w4 u34
          have J16 := J15.same u34
          have hc16 : CmdAt K G5 c cm := SqT_same u34 hc15
          have AA16 := AA15.tk (TK.of u34)
          refine ⟨_, rfl, _, rfl, ?_⟩
          cases ef : (fldW st2 host cm).isNone with
          | true =>
            have e0 : fldW st2 host cm = none := by
              cases h0 : fldW st2 host cm with
              | none => rfl
              | some x => rw [h0] at ef; cases ef
            refine chooseF rfl ⟨W, d4, _, _, rfl, ⟨J16.tp, J16.wa, J16.wk.mono (by omega), J16.po, J16.qo, J16.qs⟩, AA16, ?_⟩
            rw [e0]
            exact ⟨d3, .non, w4, w3, rfl⟩
          | false =>
            have ne : ¬ fldW st2 host cm = none := fun z => by rw [z] at ef; cases ef
            refine chooseT rfl ⟨_, rfl, by show 2 ≤ sizeLine; decide, fun d5 h5 => ?_⟩
            have u5 := same_new (o := .tup [.str "ok", oV (valW st2 host (W.o + 1) cm)]) h5
            have w5 : (upd G5 d5 (.tup [.str "ok", oV (valW st2 host (W.o + 1) cm)])) d5 = some (.tup [.str "ok", oV (valW st2 host (W.o + 1) cm)]) := upd_same
            generalize upd G5 d5 (.tup [.str "ok", oV (valW st2 host (W.o + 1) cm)]) = G6 at u5 w5
            have J17 := J16.same u5
            have hc17 : CmdAt K G6 c cm := SqT_same u5 hc16
            refine ⟨_, rfl, _, rfl, _, rfl, w, W, i + 1, st2, host, c, cm, rfl, J17.wa, J17.wk, SO, hc17, hs, ne, fun v G7 g7 hv => ⟨by show 2 ≤ sizeLine; decide, fun d6 h6 => ?_⟩⟩
            have u6 := same_new (o := .tup [.ref d5, v]) h6
            have w6 : (upd G7 d6 (.tup [.ref d5, v])) d6 = some (.tup [.ref d5, v]) := upd_same
            have hv6 := hv.tk (TK.of u6)
            have w56 := u6 _ _ (g7 _ _ w5)
            have u67 := g7.trans u6
            generalize upd G7 d6 (.tup [.ref d5, v]) = G8 at w6 hv6 w56 u67
            have J18 := J17.same u67
            have hc18 : CmdAt K G8 c cm := SqT_same u67 hc17
            have AA18 := (AA16.tk (TK.of u5)).tk (TK.of u67)
            refine ⟨_, rfl, _, rfl, _, rfl, w, W, i + 1, host, c, cm, rfl, J18.wa, J18.wk, by omega, hc18, oc, pre_of SO J18.wk e ne, fun W' G9 C => ?_⟩
            exact ⟨W', d6, _, _, rfl, J18.chg C, AA18.tk C.tk, AnsAt.tk ⟨d5, v, w6, w56, hv6⟩ C.tk⟩
        · refine chooseF (str_eqF e) ⟨W, d2, _, _, rfl, ⟨J13.tp, J13.wa, J13.wk.mono (by omega), J13.po, J13.qo, J13.qs⟩, AA13, ?_⟩
          have ea : ansW st2 host key cm (W.o + 1) = (refW st2 host key cm, none, none) := if_neg e
          rw [ea]
          exact ⟨d1, .non, w2, w1, rfl⟩
      rintro σ' G3 ⟨W', d, x11, x12, rfl, JE, T1, T2⟩
      generalize ansW st2 host key cm (W.o + 1) = AW at okA T1 T2
      obtain ⟨aw, ax, af⟩ := AW
      obtain ⟨t1, fv, B1, B2, B3⟩ := T1
      obtain ⟨t2, fv2, C1, C2, C3⟩ := T2
      refine ⟨_, rfl, _, rfl, ansD aw ax af, ansD aw ax af, ans_dp B1 B2 B3 okA.2, ans_dp C1 C2 C3 okA.2, ans_sh okA.1 okA.2, ans_sh okA.1 okA.2, _, rfl, ?_⟩
      rw [SeqAt.eqv_refl _ (ans_lay okA.1 okA.2).1]
      refine chooseF rfl ?_
      cases ax with
      | none => exact ⟨_, rfl, told, _, _, _, rfl, rfl, SqT.of B1, atI_nat (j := 0) rfl, t1, _, _, _, rfl, rfl, SqT.of B2, atI_nat (j := 1) rfl, _, _, _, _, false, rfl, .ty "bool", .base .non, kit_ty (by decide +kernel), _, rfl, chooseF rfl ⟨W', _, _, _, _, _, _, _, _, _, _, rfl, JE⟩⟩
      | some x => exact ⟨_, rfl, told, _, _, _, rfl, rfl, SqT.of B1, atI_nat (j := 0) rfl, t1, _, _, _, rfl, rfl, SqT.of B2, atI_nat (j := 1) rfl, _, _, _, _, false, rfl, .ty "bool", .base (.int _), kit_ty (by decide +kernel), _, rfl, chooseF rfl ⟨W', _, _, _, _, _, _, _, _, _, _, rfl, JE⟩⟩
    · rintro σ G ⟨W, v3, v4, v5, v6, v7, v8, v9, v10, v11, v12, rfl, J⟩
      exact k _
end
end Sg.Fe

set_option Elab.async false
set_option linter.all false
set_option maxRecDepth 100000
set_option maxHeartbeats 8000000
namespace Sg
open PySem PySem.Spec PyProof.Rows L2
theorem all_mk {l : PySem.W.OpenLaw} {w : World} {K : PySem.W.Frag} {h : Heap} {mg : Str → Option Value} {fa fKo fHw fRf fCn fRk fKp fRr fRp fWh fSo fRc fRs fAd fNo fRd fPo fVd fFd fN fC fLf fLs fLh fLe fLr fLc fLi fLx fLv fLg fLk fL aRe aCh aOr aRl aP aT0 aT1 aT2 aT3 aT4 aT5 aT6 aT7 aT8 aT9 aT10 aT11 aT12 aT13 CN CS : Addr} (X : K.In h) (G : h.Ns mainGlobals mg) (hfa : mg "law" = some (.ref fa))
    {odKo anKo odHw anHw odRf anRf odCn anCn odRk anRk odKp anKp odRr anRr odRp anRp odWh anWh odSo anSo odRc anRc odRs anRs odAd anAd odNo anNo odRd anRd odPo anPo odVd anVd odFd anFd odN anN odC anC odLf anLf odLs anLs odLh anLh odLe anLe odLr anLr odLc anLc odLi anLi odLx anLx odLv anLv odLg anLg odLk anLk odL anL dRe dCh dOr dRl : Option Addr} {slKo slHw slRf slCn slRk slKp slRr slRp slWh slSo slRc slRs slAd slNo slRd slPo slVd slFd slN slC slLf slLs slLh slLe slLr slLc slLi slLx slLv slLg slLk slL sRe sCh sOr sRl sT0 sT1 sT2 sT3 sT4 sT5 sT6 sT7 sT8 sT9 sT10 sT11 sT12 sT13 : Array (Option Value)} {ocKo kVKo dcKo pmKo cdKo ctKo ocHw kVHw dcHw pmHw cdHw ctHw ocRf kVRf dcRf pmRf cdRf ctRf ocCn kVCn dcCn pmCn cdCn ctCn ocRk kVRk dcRk pmRk cdRk ctRk ocKp kVKp dcKp pmKp cdKp ctKp ocRr kVRr dcRr pmRr cdRr ctRr ocRp kVRp dcRp pmRp cdRp ctRp ocWh kVWh dcWh pmWh cdWh ctWh ocSo kVSo dcSo pmSo cdSo ctSo ocRc kVRc dcRc pmRc cdRc ctRc ocRs kVRs dcRs pmRs cdRs ctRs ocAd kVAd dcAd pmAd cdAd ctAd ocNo kVNo dcNo pmNo cdNo ctNo ocRd kVRd dcRd pmRd cdRd ctRd ocPo kVPo dcPo pmPo cdPo ctPo ocVd kVVd dcVd pmVd cdVd ctVd ocFd kVFd dcFd pmFd cdFd ctFd ocN kVN dcN pmN cdN ctN ocC kVC dcC pmC cdC ctC ocLf kVLf dcLf pmLf cdLf ctLf ocLs kVLs dcLs pmLs cdLs ctLs ocLh kVLh dcLh pmLh cdLh ctLh ocLe kVLe dcLe pmLe cdLe ctLe ocLr kVLr dcLr pmLr cdLr ctLr ocLc kVLc dcLc pmLc cdLc ctLc ocLi kVLi dcLi pmLi cdLi ctLi ocLx kVLx dcLx pmLx cdLx ctLx ocLv kVLv dcLv pmLv cdLv ctLv ocLg kVLg dcLg pmLg cdLg ctLg ocLk kVLk dcLk pmLk cdLk ctLk ocL kVL dcL pmL cdL ctL : Value} {uRe_0 uRe_1 uCh_0 uCh_1 uCh_2 uCh_3 uCh_4 uOr_0 uOr_1 uOr_2 uOr_3 uRl_0 uRl_1 uRl_2 uT0_0 uT0_1 uT1_0 uT2_0 uT2_1 uT2_2 uT3_0 uT3_1 uT4_0 uT4_1 uT5_0 uT6_0 uT6_1 uT6_2 uT7_0 uT7_1 uT8_0 uT9_0 uT10_0 uT10_1 uT11_0 uT12_0 uT12_1 : Tok} {nRe nCh nOr nRl nF nT0 nT1 nT2 nT3 nT4 nT5 nT6 nT7 nT8 nT9 nT10 nT11 nT12 nT13 : Nat} {esF : Array DictEntry}
    (aKo : PySem.W.nsIn K mainGlobals "key_of" = some (some (.ref fKo)))
    (lKo : K.lookup fKo = some ⟨ocKo, odKo, .func (PySem.W.fnOf "key_of" "key_of" (defArgs sKeyOf) (defBody sKeyOf) (defScope sKeyOf) .none kVKo dcKo pmKo anKo cdKo ctKo), slKo⟩)
    (cKo : PySem.W.codeIn K cdKo "key_of" = true)
    (kKo : PySem.W.keepIn K (.ref fKo) = true)
    (aHw : PySem.W.nsIn K mainGlobals "holder_way" = some (some (.ref fHw)))
    (lHw : K.lookup fHw = some ⟨ocHw, odHw, .func (PySem.W.fnOf "holder_way" "holder_way" (defArgs sHolderWay) (defBody sHolderWay) (defScope sHolderWay) .none kVHw dcHw pmHw anHw cdHw ctHw), slHw⟩)
    (cHw : PySem.W.codeIn K cdHw "holder_way" = true)
    (kHw : PySem.W.keepIn K (.ref fHw) = true)
    (aRf : PySem.W.nsIn K mainGlobals "refusal" = some (some (.ref fRf)))
    (lRf : K.lookup fRf = some ⟨ocRf, odRf, .func (PySem.W.fnOf "refusal" "refusal" (defArgs sRefusal) (defBody sRefusal) (defScope sRefusal) .none kVRf dcRf pmRf anRf cdRf ctRf), slRf⟩)
    (cRf : PySem.W.codeIn K cdRf "refusal" = true)
    (kRf : PySem.W.keepIn K (.ref fRf) = true)
    (aCn : PySem.W.nsIn K mainGlobals "changes_nothing" = some (some (.ref fCn)))
    (lCn : K.lookup fCn = some ⟨ocCn, odCn, .func (PySem.W.fnOf "changes_nothing" "changes_nothing" (defArgs sChangesNothing) (defBody sChangesNothing) (defScope sChangesNothing) .none kVCn dcCn pmCn anCn cdCn ctCn), slCn⟩)
    (cCn : PySem.W.codeIn K cdCn "changes_nothing" = true)
    (kCn : PySem.W.keepIn K (.ref fCn) = true)
    (aRk : PySem.W.nsIn K mainGlobals "_refuses_key" = some (some (.ref fRk)))
    (lRk : K.lookup fRk = some ⟨ocRk, odRk, .func (PySem.W.fnOf "_refuses_key" "_refuses_key" (defArgs sRefusesKey) (defBody sRefusesKey) (defScope sRefusesKey) .none kVRk dcRk pmRk anRk cdRk ctRk), slRk⟩)
    (cRk : PySem.W.codeIn K cdRk "_refuses_key" = true)
    (kRk : PySem.W.keepIn K (.ref fRk) = true)
    (aKp : PySem.W.nsIn K mainGlobals "_keeps_out" = some (some (.ref fKp)))
    (lKp : K.lookup fKp = some ⟨ocKp, odKp, .func (PySem.W.fnOf "_keeps_out" "_keeps_out" (defArgs sKeepsOut) (defBody sKeepsOut) (defScope sKeepsOut) .none kVKp dcKp pmKp anKp cdKp ctKp), slKp⟩)
    (cKp : PySem.W.codeIn K cdKp "_keeps_out" = true)
    (kKp : PySem.W.keepIn K (.ref fKp) = true)
    (aRr : PySem.W.nsIn K mainGlobals "_refusal_of_registered" = some (some (.ref fRr)))
    (lRr : K.lookup fRr = some ⟨ocRr, odRr, .func (PySem.W.fnOf "_refusal_of_registered" "_refusal_of_registered" (defArgs sRefReg) (defBody sRefReg) (defScope sRefReg) .none kVRr dcRr pmRr anRr cdRr ctRr), slRr⟩)
    (cRr : PySem.W.codeIn K cdRr "_refusal_of_registered" = true)
    (kRr : PySem.W.keepIn K (.ref fRr) = true)
    (aRp : PySem.W.nsIn K mainGlobals "_refusal_of_preempt" = some (some (.ref fRp)))
    (lRp : K.lookup fRp = some ⟨ocRp, odRp, .func (PySem.W.fnOf "_refusal_of_preempt" "_refusal_of_preempt" (defArgs sRefPre) (defBody sRefPre) (defScope sRefPre) .none kVRp dcRp pmRp anRp cdRp ctRp), slRp⟩)
    (cRp : PySem.W.codeIn K cdRp "_refusal_of_preempt" = true)
    (kRp : PySem.W.keepIn K (.ref fRp) = true)
    (aWh : PySem.W.nsIn K mainGlobals "is_whole" = some (some (.ref fWh)))
    (lWh : K.lookup fWh = some ⟨ocWh, odWh, .func (PySem.W.fnOf "is_whole" "is_whole" (defArgs sWhole) (defBody sWhole) (defScope sWhole) .none kVWh dcWh pmWh anWh cdWh ctWh), slWh⟩)
    (cWh : PySem.W.codeIn K cdWh "is_whole" = true)
    (kWh : PySem.W.keepIn K (.ref fWh) = true)
    (aSo : PySem.W.nsIn K mainGlobals "space_of" = some (some (.ref fSo)))
    (lSo : K.lookup fSo = some ⟨ocSo, odSo, .func (PySem.W.fnOf "space_of" "space_of" (defArgs sSpaceOf) (defBody sSpaceOf) (defScope sSpaceOf) .none kVSo dcSo pmSo anSo cdSo ctSo), slSo⟩)
    (cSo : PySem.W.codeIn K cdSo "space_of" = true)
    (kSo : PySem.W.keepIn K (.ref fSo) = true)
    (aRc : PySem.W.nsIn K mainGlobals "read_cell" = some (some (.ref fRc)))
    (lRc : K.lookup fRc = some ⟨ocRc, odRc, .func (PySem.W.fnOf "read_cell" "read_cell" (defArgs sReadCell) (defBody sReadCell) (defScope sReadCell) .none kVRc dcRc pmRc anRc cdRc ctRc), slRc⟩)
    (cRc : PySem.W.codeIn K cdRc "read_cell" = true)
    (kRc : PySem.W.keepIn K (.ref fRc) = true)
    (aRs : PySem.W.nsIn K mainGlobals "read_snapshot" = some (some (.ref fRs)))
    (lRs : K.lookup fRs = some ⟨ocRs, odRs, .func (PySem.W.fnOf "read_snapshot" "read_snapshot" (defArgs sReadSnap) (defBody sReadSnap) (defScope sReadSnap) .none kVRs dcRs pmRs anRs cdRs ctRs), slRs⟩)
    (cRs : PySem.W.codeIn K cdRs "read_snapshot" = true)
    (kRs : PySem.W.keepIn K (.ref fRs) = true)
    (aAd : PySem.W.nsIn K mainGlobals "answer_due" = some (some (.ref fAd)))
    (lAd : K.lookup fAd = some ⟨ocAd, odAd, .func (PySem.W.fnOf "answer_due" "answer_due" (defArgs sAnswerDue) (defBody sAnswerDue) (defScope sAnswerDue) .none kVAd dcAd pmAd anAd cdAd ctAd), slAd⟩)
    (cAd : PySem.W.codeIn K cdAd "answer_due" = true)
    (kAd : PySem.W.keepIn K (.ref fAd) = true)
    (aNo : PySem.W.nsIn K mainGlobals "namespace_of" = some (some (.ref fNo)))
    (lNo : K.lookup fNo = some ⟨ocNo, odNo, .func (PySem.W.fnOf "namespace_of" "namespace_of" (defArgs sNamespaceOf) (defBody sNamespaceOf) (defScope sNamespaceOf) .none kVNo dcNo pmNo anNo cdNo ctNo), slNo⟩)
    (cNo : PySem.W.codeIn K cdNo "namespace_of" = true)
    (kNo : PySem.W.keepIn K (.ref fNo) = true)
    (aRd : PySem.W.nsIn K mainGlobals "_refusal_due" = some (some (.ref fRd)))
    (lRd : K.lookup fRd = some ⟨ocRd, odRd, .func (PySem.W.fnOf "_refusal_due" "_refusal_due" (defArgs sRefDue) (defBody sRefDue) (defScope sRefDue) .none kVRd dcRd pmRd anRd cdRd ctRd), slRd⟩)
    (cRd : PySem.W.codeIn K cdRd "_refusal_due" = true)
    (kRd : PySem.W.keepIn K (.ref fRd) = true)
    (aPo : PySem.W.nsIn K mainGlobals "_part_of" = some (some (.ref fPo)))
    (lPo : K.lookup fPo = some ⟨ocPo, odPo, .func (PySem.W.fnOf "_part_of" "_part_of" (defArgs sPartOf) (defBody sPartOf) (defScope sPartOf) .none kVPo dcPo pmPo anPo cdPo ctPo), slPo⟩)
    (cPo : PySem.W.codeIn K cdPo "_part_of" = true)
    (kPo : PySem.W.keepIn K (.ref fPo) = true)
    (aVd : PySem.W.nsIn K mainGlobals "_value_due" = some (some (.ref fVd)))
    (lVd : K.lookup fVd = some ⟨ocVd, odVd, .func (PySem.W.fnOf "_value_due" "_value_due" (defArgs sValueDue) (defBody sValueDue) (defScope sValueDue) .none kVVd dcVd pmVd anVd cdVd ctVd), slVd⟩)
    (cVd : PySem.W.codeIn K cdVd "_value_due" = true)
    (kVd : PySem.W.keepIn K (.ref fVd) = true)
    (aFd : PySem.W.nsIn K mainGlobals "_fields_due" = some (some (.ref fFd)))
    (lFd : K.lookup fFd = some ⟨ocFd, odFd, .func (PySem.W.fnOf "_fields_due" "_fields_due" (defArgs sFieldsDue) (defBody sFieldsDue) (defScope sFieldsDue) .none kVFd dcFd pmFd anFd cdFd ctFd), slFd⟩)
    (cFd : PySem.W.codeIn K cdFd "_fields_due" = true)
    (kFd : PySem.W.keepIn K (.ref fFd) = true)
    (aN : PySem.W.nsIn K mainGlobals "_law_next" = some (some (.ref fN)))
    (lN : K.lookup fN = some ⟨ocN, odN, .func (PySem.W.fnOf "_law_next" "_law_next" (defArgs sNext) (defBody sNext) (defScope sNext) .none kVN dcN pmN anN cdN ctN), slN⟩)
    (cN : PySem.W.codeIn K cdN "_law_next" = true)
    (kN : PySem.W.keepIn K (.ref fN) = true)
    (aC : PySem.W.nsIn K mainGlobals "_law_command" = some (some (.ref fC)))
    (lC : K.lookup fC = some ⟨ocC, odC, .func (PySem.W.fnOf "_law_command" "_law_command" (defArgs sCommand) (defBody sCommand) (defScope sCommand) .none kVC dcC pmC anC cdC ctC), slC⟩)
    (cC : PySem.W.codeIn K cdC "_law_command" = true)
    (kC : PySem.W.keepIn K (.ref fC) = true)
    (aLf : PySem.W.nsIn K mainGlobals "_law_fence" = some (some (.ref fLf)))
    (lLf : K.lookup fLf = some ⟨ocLf, odLf, .func (PySem.W.fnOf "_law_fence" "_law_fence" (defArgs sLFence) (defBody sLFence) (defScope sLFence) .none kVLf dcLf pmLf anLf cdLf ctLf), slLf⟩)
    (cLf : PySem.W.codeIn K cdLf "_law_fence" = true)
    (kLf : PySem.W.keepIn K (.ref fLf) = true)
    (aLs : PySem.W.nsIn K mainGlobals "_law_state" = some (some (.ref fLs)))
    (lLs : K.lookup fLs = some ⟨ocLs, odLs, .func (PySem.W.fnOf "_law_state" "_law_state" (defArgs sLState) (defBody sLState) (defScope sLState) .none kVLs dcLs pmLs anLs cdLs ctLs), slLs⟩)
    (cLs : PySem.W.codeIn K cdLs "_law_state" = true)
    (kLs : PySem.W.keepIn K (.ref fLs) = true)
    (aLh : PySem.W.nsIn K mainGlobals "_law_hold" = some (some (.ref fLh)))
    (lLh : K.lookup fLh = some ⟨ocLh, odLh, .func (PySem.W.fnOf "_law_hold" "_law_hold" (defArgs sLHold) (defBody sLHold) (defScope sLHold) .none kVLh dcLh pmLh anLh cdLh ctLh), slLh⟩)
    (cLh : PySem.W.codeIn K cdLh "_law_hold" = true)
    (kLh : PySem.W.keepIn K (.ref fLh) = true)
    (aLe : PySem.W.nsIn K mainGlobals "_law_fenced" = some (some (.ref fLe)))
    (lLe : K.lookup fLe = some ⟨ocLe, odLe, .func (PySem.W.fnOf "_law_fenced" "_law_fenced" (defArgs sLFenced) (defBody sLFenced) (defScope sLFenced) .none kVLe dcLe pmLe anLe cdLe ctLe), slLe⟩)
    (cLe : PySem.W.codeIn K cdLe "_law_fenced" = true)
    (kLe : PySem.W.keepIn K (.ref fLe) = true)
    (aLr : PySem.W.nsIn K mainGlobals "_law_refused" = some (some (.ref fLr)))
    (lLr : K.lookup fLr = some ⟨ocLr, odLr, .func (PySem.W.fnOf "_law_refused" "_law_refused" (defArgs sLRef) (defBody sLRef) (defScope sLRef) .none kVLr dcLr pmLr anLr cdLr ctLr), slLr⟩)
    (cLr : PySem.W.codeIn K cdLr "_law_refused" = true)
    (kLr : PySem.W.keepIn K (.ref fLr) = true)
    (aLc : PySem.W.nsIn K mainGlobals "_law_change_fence" = some (some (.ref fLc)))
    (lLc : K.lookup fLc = some ⟨ocLc, odLc, .func (PySem.W.fnOf "_law_change_fence" "_law_change_fence" (defArgs sLChF) (defBody sLChF) (defScope sLChF) .none kVLc dcLc pmLc anLc cdLc ctLc), slLc⟩)
    (cLc : PySem.W.codeIn K cdLc "_law_change_fence" = true)
    (kLc : PySem.W.keepIn K (.ref fLc) = true)
    (aLi : PySem.W.nsIn K mainGlobals "_law_idle" = some (some (.ref fLi)))
    (lLi : K.lookup fLi = some ⟨ocLi, odLi, .func (PySem.W.fnOf "_law_idle" "_law_idle" (defArgs sLIdle) (defBody sLIdle) (defScope sLIdle) .none kVLi dcLi pmLi anLi cdLi ctLi), slLi⟩)
    (cLi : PySem.W.codeIn K cdLi "_law_idle" = true)
    (kLi : PySem.W.keepIn K (.ref fLi) = true)
    (aLx : PySem.W.nsIn K mainGlobals "_law_change" = some (some (.ref fLx)))
    (lLx : K.lookup fLx = some ⟨ocLx, odLx, .func (PySem.W.fnOf "_law_change" "_law_change" (defArgs sLChange) (defBody sLChange) (defScope sLChange) .none kVLx dcLx pmLx anLx cdLx ctLx), slLx⟩)
    (cLx : PySem.W.codeIn K cdLx "_law_change" = true)
    (kLx : PySem.W.keepIn K (.ref fLx) = true)
    (aLv : PySem.W.nsIn K mainGlobals "_law_value" = some (some (.ref fLv)))
    (lLv : K.lookup fLv = some ⟨ocLv, odLv, .func (PySem.W.fnOf "_law_value" "_law_value" (defArgs sLVal) (defBody sLVal) (defScope sLVal) .none kVLv dcLv pmLv anLv cdLv ctLv), slLv⟩)
    (cLv : PySem.W.codeIn K cdLv "_law_value" = true)
    (kLv : PySem.W.keepIn K (.ref fLv) = true)
    (aLg : PySem.W.nsIn K mainGlobals "_law_fields" = some (some (.ref fLg)))
    (lLg : K.lookup fLg = some ⟨ocLg, odLg, .func (PySem.W.fnOf "_law_fields" "_law_fields" (defArgs sLFields) (defBody sLFields) (defScope sLFields) .none kVLg dcLg pmLg anLg cdLg ctLg), slLg⟩)
    (cLg : PySem.W.codeIn K cdLg "_law_fields" = true)
    (kLg : PySem.W.keepIn K (.ref fLg) = true)
    (aLk : PySem.W.nsIn K mainGlobals "_law_key" = some (some (.ref fLk)))
    (lLk : K.lookup fLk = some ⟨ocLk, odLk, .func (PySem.W.fnOf "_law_key" "_law_key" (defArgs sLKy) (defBody sLKy) (defScope sLKy) .none kVLk dcLk pmLk anLk cdLk ctLk), slLk⟩)
    (cLk : PySem.W.codeIn K cdLk "_law_key" = true)
    (kLk : PySem.W.keepIn K (.ref fLk) = true)
    (aL : PySem.W.nsIn K mainGlobals "law" = some (some (.ref fL)))
    (lL : K.lookup fL = some ⟨ocL, odL, .func (PySem.W.fnOf "law" "law" (defArgs sLaw) (defBody sLaw) (defScope sLaw) .none kVL dcL pmL anL cdL ctL), slL⟩)
    (cL : PySem.W.codeIn K cdL "law" = true)
    (kL : PySem.W.keepIn K (.ref fL) = true)
    (gREADING : PySem.W.nsIn K mainGlobals "READING" = some (some (.ref aRe)))
    (lRe : K.lookup aRe = some ⟨.type "tuple", dRe, .seq #[.str "read" uRe_0, .str "view" uRe_1] nRe, sRe⟩)
    (gCHANGING : PySem.W.nsIn K mainGlobals "CHANGING" = some (some (.ref aCh)))
    (lCh : K.lookup aCh = some ⟨.type "tuple", dCh, .seq #[.str "write" uCh_0, .str "trim" uCh_1, .str "snap" uCh_2, .str "drop" uCh_3, .str "remove" uCh_4] nCh, sCh⟩)
    (gOF_REGISTERED : PySem.W.nsIn K mainGlobals "OF_REGISTERED" = some (some (.ref aOr)))
    (lOr : K.lookup aOr = some ⟨.type "tuple", dOr, .seq #[.str "leave" uOr_0, .str "reserve" uOr_1, .str "release" uOr_2, .str "preempt" uOr_3] nOr, sOr⟩)
    (gRECORDLESS : PySem.W.nsIn K mainGlobals "RECORDLESS" = some (some (.ref aRl)))
    (lRl : K.lookup aRl = some ⟨.type "tuple", dRl, .seq #[.str "read" uRl_0, .str "view" uRl_1, .str "flush" uRl_2] nRl, sRl⟩)
    (gPARTS : PySem.W.nsIn K mainGlobals "PARTS" = some (some (.ref aP)))
    (lPARTS : K.lookup aP = some ⟨.type "dict", none, .dict esF nF, #[]⟩)
    (kPARTS : PySem.W.KeysLit w.params esF.toList)
    (en0 : PySem.W.nsIn K aP "make" = some (some (.ref aT0)))
    (lT0 : K.lookup aT0 = some ⟨.type "tuple", none, .seq #[.str "namespace" uT0_0, .str "size" uT0_1] nT0, sT0⟩)
    (en1 : PySem.W.nsIn K aP "remove" = some (some (.ref aT1)))
    (lT1 : K.lookup aT1 = some ⟨.type "tuple", none, .seq #[.str "namespace" uT1_0] nT1, sT1⟩)
    (en2 : PySem.W.nsIn K aP "write" = some (some (.ref aT2)))
    (lT2 : K.lookup aT2 = some ⟨.type "tuple", none, .seq #[.str "namespace" uT2_0, .str "place" uT2_1, .str "value" uT2_2] nT2, sT2⟩)
    (en3 : PySem.W.nsIn K aP "trim" = some (some (.ref aT3)))
    (lT3 : K.lookup aT3 = some ⟨.type "tuple", none, .seq #[.str "namespace" uT3_0, .str "place" uT3_1] nT3, sT3⟩)
    (en4 : PySem.W.nsIn K aP "read" = some (some (.ref aT4)))
    (lT4 : K.lookup aT4 = some ⟨.type "tuple", none, .seq #[.str "namespace" uT4_0, .str "place" uT4_1] nT4, sT4⟩)
    (en5 : PySem.W.nsIn K aP "snap" = some (some (.ref aT5)))
    (lT5 : K.lookup aT5 = some ⟨.type "tuple", none, .seq #[.str "namespace" uT5_0] nT5, sT5⟩)
    (en6 : PySem.W.nsIn K aP "view" = some (some (.ref aT6)))
    (lT6 : K.lookup aT6 = some ⟨.type "tuple", none, .seq #[.str "namespace" uT6_0, .str "snapshot" uT6_1, .str "place" uT6_2] nT6, sT6⟩)
    (en7 : PySem.W.nsIn K aP "drop" = some (some (.ref aT7)))
    (lT7 : K.lookup aT7 = some ⟨.type "tuple", none, .seq #[.str "namespace" uT7_0, .str "snapshot" uT7_1] nT7, sT7⟩)
    (en8 : PySem.W.nsIn K aP "register" = some (some (.ref aT8)))
    (lT8 : K.lookup aT8 = some ⟨.type "tuple", none, .seq #[.str "namespace" uT8_0] nT8, sT8⟩)
    (en9 : PySem.W.nsIn K aP "leave" = some (some (.ref aT9)))
    (lT9 : K.lookup aT9 = some ⟨.type "tuple", none, .seq #[.str "namespace" uT9_0] nT9, sT9⟩)
    (en10 : PySem.W.nsIn K aP "reserve" = some (some (.ref aT10)))
    (lT10 : K.lookup aT10 = some ⟨.type "tuple", none, .seq #[.str "namespace" uT10_0, .str "way" uT10_1] nT10, sT10⟩)
    (en11 : PySem.W.nsIn K aP "release" = some (some (.ref aT11)))
    (lT11 : K.lookup aT11 = some ⟨.type "tuple", none, .seq #[.str "namespace" uT11_0] nT11, sT11⟩)
    (en12 : PySem.W.nsIn K aP "preempt" = some (some (.ref aT12)))
    (lT12 : K.lookup aT12 = some ⟨.type "tuple", none, .seq #[.str "namespace" uT12_0, .str "victim" uT12_1] nT12, sT12⟩)
    (en13 : PySem.W.nsIn K aP "flush" = some (some (.ref aT13)))
    (lT13 : K.lookup aT13 = some ⟨.type "tuple", none, .seq #[] nT13, sT13⟩)
    (aN_ : PySem.W.nsIn K mainGlobals "NotValid" = some (some (.ref CN)))
    (aS_ : PySem.W.nsIn K mainGlobals "SpindleError" = some (some (.ref CS)))
    (xNe : PySem.W.excIn K CN [.type "ValueError", .type "Exception", .type "BaseException", .type "object"] "ValueError.__new__" = true)
    (kNe : PySem.W.keepIn K (.ref CN) = true)
    (bNe : PySem.W.subIn K (.ref CN) (.type "BaseException") = some true)
    (tNe : PySem.W.typeIn K (.ref CN) = some (.type "type"))
    (sNe : PySem.W.subIn K (.ref CN) (.ref CS) = some true)
    (iSe : PySem.W.isClsIn K CS = true)
    (bSe : PySem.W.subIn K (.ref CS) (.type "BaseException") = some true)
    (tSe : PySem.W.typeIn K (.ref CS) = some (.type "type"))
    (z_dict : PySem.W.nsIn K mainGlobals "dict" = some none)
    (z_len : PySem.W.nsIn K mainGlobals "len" = some none)
    (z_abs : PySem.W.nsIn K mainGlobals "abs" = some none)
    (z_int : PySem.W.nsIn K mainGlobals "int" = some none)
    (z_bool : PySem.W.nsIn K mainGlobals "bool" = some none)
    (z_list : PySem.W.nsIn K mainGlobals "list" = some none)
    (z_tuple : PySem.W.nsIn K mainGlobals "tuple" = some none)
    (z_sorted : PySem.W.nsIn K mainGlobals "sorted" = some none)
    (z_range : PySem.W.nsIn K mainGlobals "range" = some none)
    (z_isinstance : PySem.W.nsIn K mainGlobals "isinstance" = some none)
    : ∃ fd : FuncData, (∀ (s : Shared) (v : Value), BindsTo s fd ⟨[v], []⟩ [("script", v)]) ∧ ∀ base : Heap, K.In base → base.Ns mainGlobals mg → FnOk l.prog w K mg base CX0 7 fa fd ["script"] (Fe.spLaw K) := by
  have e := hfa.symm.trans (PySem.W.mg_of X G aL)
  cases e
  have NVx : NV K mg CN CS := ⟨PySem.W.mg_of X G aN_, xNe, kNe, bNe, tNe, PySem.W.mg_of X G aS_, exm_sub bSe iSe tSe sNe⟩
  have B : Fe.LB mg := ⟨PySem.W.mg_none_of X G z_len, PySem.W.mg_none_of X G z_abs, PySem.W.mg_none_of X G z_int, PySem.W.mg_none_of X G z_list, PySem.W.mg_none_of X G z_tuple, PySem.W.mg_none_of X G z_sorted, PySem.W.mg_none_of X G z_range⟩
  have BX : BI mg := ⟨PySem.W.mg_none_of X G z_int, PySem.W.mg_none_of X G z_bool, PySem.W.mg_none_of X G z_isinstance⟩
  have FXx : Fe.FX K mg aRe aCh aOr := ⟨PySem.W.mg_none_of X G z_dict, PySem.W.mg_none_of X G z_len, PySem.W.mg_of X G gREADING, fun H => (.inr ⟨_, _, _, lRe, rfl, rfl, (show (2 : Nat) ≤ sizeLine by decide), (.cons ⟨_, rfl⟩ (.cons ⟨_, rfl⟩ .nil))⟩), PySem.W.mg_of X G gCHANGING, fun H => (.inr ⟨_, _, _, lCh, rfl, rfl, (show (5 : Nat) ≤ sizeLine by decide), (.cons ⟨_, rfl⟩ (.cons ⟨_, rfl⟩ (.cons ⟨_, rfl⟩ (.cons ⟨_, rfl⟩ (.cons ⟨_, rfl⟩ .nil)))))⟩), PySem.W.mg_of X G gOF_REGISTERED, fun H => (.inr ⟨_, _, _, lOr, rfl, rfl, (show (4 : Nat) ≤ sizeLine by decide), (.cons ⟨_, rfl⟩ (.cons ⟨_, rfl⟩ (.cons ⟨_, rfl⟩ (.cons ⟨_, rfl⟩ .nil))))⟩)⟩
  have R : PX K w mg aP aRl := by
    refine ⟨PySem.W.mg_of X G gPARTS, fun p hp => ?_, PySem.W.mg_of X G gRECORDLESS, fun H => (.inr ⟨_, _, _, lRl, rfl, rfl, (show (3 : Nat) ≤ sizeLine by decide), (.cons ⟨_, rfl⟩ (.cons ⟨_, rfl⟩ (.cons ⟨_, rfl⟩ .nil)))⟩)⟩
    simp only [partsT, List.mem_cons, List.not_mem_nil, or_false] at hp
    rcases hp with rfl | rfl | rfl | rfl | rfl | rfl | rfl | rfl | rfl | rfl | rfl | rfl | rfl | rfl
    · exact ⟨aT0, ⟨_, _, _, lPARTS, kPARTS, en0, rfl⟩, ⟨_, lT0, rfl, rfl⟩, fun H => (.inr ⟨_, _, _, lT0, rfl, rfl, (show (2 : Nat) ≤ sizeLine by decide), (.cons ⟨_, rfl⟩ (.cons ⟨_, rfl⟩ .nil))⟩)⟩
    · exact ⟨aT1, ⟨_, _, _, lPARTS, kPARTS, en1, rfl⟩, ⟨_, lT1, rfl, rfl⟩, fun H => (.inr ⟨_, _, _, lT1, rfl, rfl, (show (1 : Nat) ≤ sizeLine by decide), (.cons ⟨_, rfl⟩ .nil)⟩)⟩
    · exact ⟨aT2, ⟨_, _, _, lPARTS, kPARTS, en2, rfl⟩, ⟨_, lT2, rfl, rfl⟩, fun H => (.inr ⟨_, _, _, lT2, rfl, rfl, (show (3 : Nat) ≤ sizeLine by decide), (.cons ⟨_, rfl⟩ (.cons ⟨_, rfl⟩ (.cons ⟨_, rfl⟩ .nil)))⟩)⟩
    · exact ⟨aT3, ⟨_, _, _, lPARTS, kPARTS, en3, rfl⟩, ⟨_, lT3, rfl, rfl⟩, fun H => (.inr ⟨_, _, _, lT3, rfl, rfl, (show (2 : Nat) ≤ sizeLine by decide), (.cons ⟨_, rfl⟩ (.cons ⟨_, rfl⟩ .nil))⟩)⟩
    · exact ⟨aT4, ⟨_, _, _, lPARTS, kPARTS, en4, rfl⟩, ⟨_, lT4, rfl, rfl⟩, fun H => (.inr ⟨_, _, _, lT4, rfl, rfl, (show (2 : Nat) ≤ sizeLine by decide), (.cons ⟨_, rfl⟩ (.cons ⟨_, rfl⟩ .nil))⟩)⟩
    · exact ⟨aT5, ⟨_, _, _, lPARTS, kPARTS, en5, rfl⟩, ⟨_, lT5, rfl, rfl⟩, fun H => (.inr ⟨_, _, _, lT5, rfl, rfl, (show (1 : Nat) ≤ sizeLine by decide), (.cons ⟨_, rfl⟩ .nil)⟩)⟩
    · exact ⟨aT6, ⟨_, _, _, lPARTS, kPARTS, en6, rfl⟩, ⟨_, lT6, rfl, rfl⟩, fun H => (.inr ⟨_, _, _, lT6, rfl, rfl, (show (3 : Nat) ≤ sizeLine by decide), (.cons ⟨_, rfl⟩ (.cons ⟨_, rfl⟩ (.cons ⟨_, rfl⟩ .nil)))⟩)⟩
    · exact ⟨aT7, ⟨_, _, _, lPARTS, kPARTS, en7, rfl⟩, ⟨_, lT7, rfl, rfl⟩, fun H => (.inr ⟨_, _, _, lT7, rfl, rfl, (show (2 : Nat) ≤ sizeLine by decide), (.cons ⟨_, rfl⟩ (.cons ⟨_, rfl⟩ .nil))⟩)⟩
    · exact ⟨aT8, ⟨_, _, _, lPARTS, kPARTS, en8, rfl⟩, ⟨_, lT8, rfl, rfl⟩, fun H => (.inr ⟨_, _, _, lT8, rfl, rfl, (show (1 : Nat) ≤ sizeLine by decide), (.cons ⟨_, rfl⟩ .nil)⟩)⟩
    · exact ⟨aT9, ⟨_, _, _, lPARTS, kPARTS, en9, rfl⟩, ⟨_, lT9, rfl, rfl⟩, fun H => (.inr ⟨_, _, _, lT9, rfl, rfl, (show (1 : Nat) ≤ sizeLine by decide), (.cons ⟨_, rfl⟩ .nil)⟩)⟩
    · exact ⟨aT10, ⟨_, _, _, lPARTS, kPARTS, en10, rfl⟩, ⟨_, lT10, rfl, rfl⟩, fun H => (.inr ⟨_, _, _, lT10, rfl, rfl, (show (2 : Nat) ≤ sizeLine by decide), (.cons ⟨_, rfl⟩ (.cons ⟨_, rfl⟩ .nil))⟩)⟩
    · exact ⟨aT11, ⟨_, _, _, lPARTS, kPARTS, en11, rfl⟩, ⟨_, lT11, rfl, rfl⟩, fun H => (.inr ⟨_, _, _, lT11, rfl, rfl, (show (1 : Nat) ≤ sizeLine by decide), (.cons ⟨_, rfl⟩ .nil)⟩)⟩
    · exact ⟨aT12, ⟨_, _, _, lPARTS, kPARTS, en12, rfl⟩, ⟨_, lT12, rfl, rfl⟩, fun H => (.inr ⟨_, _, _, lT12, rfl, rfl, (show (2 : Nat) ≤ sizeLine by decide), (.cons ⟨_, rfl⟩ (.cons ⟨_, rfl⟩ .nil))⟩)⟩
    · exact ⟨aT13, ⟨_, _, _, lPARTS, kPARTS, en13, rfl⟩, ⟨_, lT13, rfl, rfl⟩, fun H => (.inr ⟨_, _, _, lT13, rfl, rfl, (show (0 : Nat) ≤ sizeLine by decide), .nil⟩)⟩
  have FKo := fun_mk (st := sKeyOf) lKo cKo kKo
  have FHw := fun_mk (st := sHolderWay) lHw cHw kHw
  have FRf := fun_mk (st := sRefusal) lRf cRf kRf
  have FCn := fun_mk (st := sChangesNothing) lCn cCn kCn
  have FRk := fun_mk (st := sRefusesKey) lRk cRk kRk
  have FKp := fun_mk (st := sKeepsOut) lKp cKp kKp
  have FRr := fun_mk (st := sRefReg) lRr cRr kRr
  have FRp := fun_mk (st := sRefPre) lRp cRp kRp
  have FWh := fun_mk (st := sWhole) lWh cWh kWh
  have FSo := fun_mk (st := sSpaceOf) lSo cSo kSo
  have FRc := fun_mk (st := sReadCell) lRc cRc kRc
  have FRs := fun_mk (st := sReadSnap) lRs cRs kRs
  have FAd := fun_mk (st := sAnswerDue) lAd cAd kAd
  have FNo := fun_mk (st := sNamespaceOf) lNo cNo kNo
  have FRd := fun_mk (st := sRefDue) lRd cRd kRd
  have FPo := fun_mk (st := sPartOf) lPo cPo kPo
  have FVd := fun_mk (st := sValueDue) lVd cVd kVd
  have FFd := fun_mk (st := sFieldsDue) lFd cFd kFd
  have FN := fun_mk (st := sNext) lN cN kN
  have FC := fun_mk (st := sCommand) lC cC kC
  have FLf := fun_mk (st := sLFence) lLf cLf kLf
  have FLs := fun_mk (st := sLState) lLs cLs kLs
  have FLh := fun_mk (st := sLHold) lLh cLh kLh
  have FLe := fun_mk (st := sLFenced) lLe cLe kLe
  have FLr := fun_mk (st := sLRef) lLr cLr kLr
  have FLc := fun_mk (st := sLChF) lLc cLc kLc
  have FLi := fun_mk (st := sLIdle) lLi cLi kLi
  have FLx := fun_mk (st := sLChange) lLx cLx kLx
  have FLv := fun_mk (st := sLVal) lLv cLv kLv
  have FLg := fun_mk (st := sLFields) lLg cLg kLg
  have FLk := fun_mk (st := sLKy) lLk cLk kLk
  have FL := fun_mk (st := sLaw) lL cL kL
  have bKo := FKo.binds (ps := ["fence", "host"]) fun _ _ _ _ _ _ us hl => match us, hl with | [_, _], _ => rfl
  have bHw := FHw.binds (ps := ["fence", "host"]) fun _ _ _ _ _ _ us hl => match us, hl with | [_, _], _ => rfl
  have bRf := FRf.binds (ps := ["fence", "host", "key", "command"]) fun _ _ _ _ _ _ us hl => match us, hl with | [_, _, _, _], _ => rfl
  have bCn := FCn.binds (ps := ["fence", "host", "command"]) fun _ _ _ _ _ _ us hl => match us, hl with | [_, _, _], _ => rfl
  have bRk := FRk.binds (ps := ["fence", "host", "key", "word"]) fun _ _ _ _ _ _ us hl => match us, hl with | [_, _, _, _], _ => rfl
  have bKp := FKp.binds (ps := ["fence", "host", "word"]) fun _ _ _ _ _ _ us hl => match us, hl with | [_, _, _], _ => rfl
  have bRr := FRr.binds (ps := ["fence", "host", "command"]) fun _ _ _ _ _ _ us hl => match us, hl with | [_, _, _], _ => rfl
  have bRp := FRp.binds (ps := ["fence", "host", "victim"]) fun _ _ _ _ _ _ us hl => match us, hl with | [_, _, _], _ => rfl
  have bWh := FWh.binds (ps := ["value"]) fun _ _ _ _ _ _ us hl => match us, hl with | [_], _ => rfl
  have bSo := FSo.binds (ps := ["state", "namespace"]) fun _ _ _ _ _ _ us hl => match us, hl with | [_, _], _ => rfl
  have bRc := FRc.binds (ps := ["state", "namespace", "place"]) fun _ _ _ _ _ _ us hl => match us, hl with | [_, _, _], _ => rfl
  have bRs := FRs.binds (ps := ["state", "namespace", "number", "place"]) fun _ _ _ _ _ _ us hl => match us, hl with | [_, _, _, _], _ => rfl
  have bAd := FAd.binds (ps := ["state", "host", "key", "command", "order"]) fun _ _ _ _ _ _ us hl => match us, hl with | [_, _, _, _, _], _ => rfl
  have bNo := FNo.binds (ps := ["command"]) fun _ _ _ _ _ _ us hl => match us, hl with | [_], _ => rfl
  have bRd := FRd.binds (ps := ["state", "host", "key", "command"]) fun _ _ _ _ _ _ us hl => match us, hl with | [_, _, _, _], _ => rfl
  have bPo := FPo.binds (ps := ["command", "name"]) fun _ _ _ _ _ _ us hl => match us, hl with | [_, _], _ => rfl
  have bVd := FVd.binds (ps := ["state", "host", "command", "order"]) fun _ _ _ _ _ _ us hl => match us, hl with | [_, _, _, _], _ => rfl
  have bFd := FFd.binds (ps := ["state", "host", "command"]) fun _ _ _ _ _ _ us hl => match us, hl with | [_, _, _], _ => rfl
  have bN := FN.binds (ps := ["tape", "many"]) fun _ _ _ _ _ _ us hl => match us, hl with | [_, _], _ => rfl
  have bC := FC.binds (ps := ["tape"]) fun _ _ _ _ _ _ us hl => match us, hl with | [_], _ => rfl
  have bLf := FLf.binds (ps := ["keys", "holder"]) fun _ _ _ _ _ _ us hl => match us, hl with | [_, _], _ => rfl
  have bLs := FLs.binds (ps := ["world"]) fun _ _ _ _ _ _ us hl => match us, hl with | [_], _ => rfl
  have bLh := FLh.binds (ps := ["space", "host", "command"]) fun _ _ _ _ _ _ us hl => match us, hl with | [_, _, _], _ => rfl
  have bLe := FLe.binds (ps := ["space", "host", "key", "command"]) fun _ _ _ _ _ _ us hl => match us, hl with | [_, _, _, _], _ => rfl
  have bLr := FLr.binds (ps := ["world", "host", "key", "command"]) fun _ _ _ _ _ _ us hl => match us, hl with | [_, _, _, _], _ => rfl
  have bLc := FLc.binds (ps := ["space", "host", "command", "order"]) fun _ _ _ _ _ _ us hl => match us, hl with | [_, _, _, _], _ => rfl
  have bLi := FLi.binds (ps := ["world", "host", "command"]) fun _ _ _ _ _ _ us hl => match us, hl with | [_, _, _], _ => rfl
  have bLx := FLx.binds (ps := ["world", "host", "command"]) fun _ _ _ _ _ _ us hl => match us, hl with | [_, _, _], _ => rfl
  have bLv := FLv.binds (ps := ["world", "host", "command"]) fun _ _ _ _ _ _ us hl => match us, hl with | [_, _, _], _ => rfl
  have bLg := FLg.binds (ps := ["world", "host", "command"]) fun _ _ _ _ _ _ us hl => match us, hl with | [_, _, _], _ => rfl
  have bLk := FLk.binds (ps := ["world", "host", "command", "tape"]) fun _ _ _ _ _ _ us hl => match us, hl with | [_, _, _, _], _ => rfl
  refine ⟨PySem.W.fnOf "law" "law" (defArgs sLaw) (defBody sLaw) (defScope sLaw) .none kVL dcL pmL anL cdL ctL, fun s v => .of_eq rfl, fun base _ _ => ?_⟩
  have dKo := Def.mk (Fe.ok_keyOf (P := l.prog) (wrl := w) (base := base) FKo FXx) bKo kKo (PySem.W.mg_of X G aKo)
  have dHw := Def.mk (Fe.ok_holderWay (P := l.prog) (wrl := w) (mg := mg) (base := base) FHw) bHw kHw (PySem.W.mg_of X G aHw)
  have dRk := Def.mk (Fe.ok_refusesKey FRk FXx dKo) bRk kRk (PySem.W.mg_of X G aRk)
  have dKp := Def.mk (Fe.ok_keepsOut (P := l.prog) (wrl := w) (base := base) FKp FXx) bKp kKp (PySem.W.mg_of X G aKp)
  have dRp := Def.mk (Fe.ok_refPre FRp dKo) bRp kRp (PySem.W.mg_of X G aRp)
  have dRr := Def.mk (Fe.ok_refReg FRr dKo dHw dRp) bRr kRr (PySem.W.mg_of X G aRr)
  have dRf := Def.mk (Fe.ok_refusal FRf FXx dRk dKp dRr) bRf kRf (PySem.W.mg_of X G aRf)
  have dCn := Def.mk (Fe.ok_nothing FCn dKo dHw) bCn kCn (PySem.W.mg_of X G aCn)
  have dWh := Def.mk (ok_whole (P := l.prog) (wd := w) (base := base) FWh BX) bWh kWh (PySem.W.mg_of X G aWh)
  have dSo := Def.mk (ok_spaceOf FSo NVx dWh) bSo kSo (PySem.W.mg_of X G aSo)
  have dRc := Def.mk (ok_readCell FRc dSo) bRc kRc (PySem.W.mg_of X G aRc)
  have dRs := Def.mk (ok_readSnap FRs NVx dWh) bRs kRs (PySem.W.mg_of X G aRs)
  have dNo := Def.mk (ok_nsOf (P := l.prog) (wd := w) (mg := mg) (base := base) FNo) bNo kNo (PySem.W.mg_of X G aNo)
  have dPo := Def.mk (ok_partOf (P := l.prog) (wd := w) (base := base) FPo R) bPo kPo (PySem.W.mg_of X G aPo)
  have dRd := Def.mk (ok_refDue FRd R dNo dSo dRf dPo) bRd kRd (PySem.W.mg_of X G aRd)
  have dVd := Def.mk (ok_valueDue FVd dSo dRc dRs dKo) bVd kVd (PySem.W.mg_of X G aVd)
  have dFd := Def.mk (ok_fieldsDue FFd R dSo dRc dCn dHw) bFd kFd (PySem.W.mg_of X G aFd)
  have dAd := Def.mk (ok_answerDue FAd dRd dVd dFd) bAd kAd (PySem.W.mg_of X G aAd)
  have dN := Def.mk (Fe.ok_next (P := l.prog) (wrl := w) (base := base) FN B) bN kN (PySem.W.mg_of X G aN)
  have dC := Def.mk (Fe.ok_command FC B dN) bC kC (PySem.W.mg_of X G aC)
  have dLf := Def.mk (Fe.ok_lfence (P := l.prog) (wrl := w) (base := base) FLf B) bLf kLf (PySem.W.mg_of X G aLf)
  have dLs := Def.mk (Fe.ok_lstate FLs (PySem.W.mg_none_of X G z_dict) dLf) bLs kLs (PySem.W.mg_of X G aLs)
  have dLh := Def.mk (Fe.ok_lhold (P := l.prog) (wrl := w) (mg := mg) (base := base) FLh) bLh kLh (PySem.W.mg_of X G aLh)
  have dLe := Def.mk (Fe.ok_lfenced FLe B dLh) bLe kLe (PySem.W.mg_of X G aLe)
  have dLr := Def.mk (Fe.ok_lrefused FLr B dLe) bLr kLr (PySem.W.mg_of X G aLr)
  have dLc := Def.mk (Fe.ok_lchf (P := l.prog) (wd := w) (mg := mg) (base := base) FLc) bLc kLc (PySem.W.mg_of X G aLc)
  have dLi := Def.mk (Fe.ok_lidle (P := l.prog) (wd := w) (mg := mg) (base := base) FLi) bLi kLi (PySem.W.mg_of X G aLi)
  have dLx := Def.mk (Fe.ok_lchange FLx (PySem.W.mg_none_of X G z_dict) dLc) bLx kLx (PySem.W.mg_of X G aLx)
  have dLv := Def.mk (Fe.ok_lval (P := l.prog) (wd := w) (mg := mg) (base := base) FLv) bLv kLv (PySem.W.mg_of X G aLv)
  have dLg := Def.mk (Fe.ok_lfields (P := l.prog) (wd := w) (mg := mg) (base := base) FLg) bLg kLg (PySem.W.mg_of X G aLg)
  have dLk := Def.mk (Fe.ok_lky FLk dN) bLk kLk (PySem.W.mg_of X G aLk)
  exact Fe.ok_law FL B BX dN dC dLk dLs dAd dLr dLi dLv dLg dLx
/-- the law row's walk: at most 63 items -/
theorem walk_law {l : PySem.W.OpenLaw} {q : Program} {loose : List Str} {XP : (Str → Option Value) → Heap → Prop} {YP : World → Heap → Prop} {d : DefRec} {K : Params → PySem.W.Frag} (hn : l.most = some 63) (hdf : d.params.defaults = [])
    (hY : ∀ (w : World) (h : Heap), YP w h → (K w.params).In h)
    (F : ∀ (w : World) (mg : Str → Option Value) (fa : Addr) (h : Heap), (K w.params).In h → h.Ns mainGlobals mg → mg d.name = some (.ref fa) →
      ∃ fd : FuncData, (∀ (s : Shared) (u : Value), BindsTo s fd ⟨[u], []⟩ [("script", u)]) ∧ ∀ base : Heap, (K w.params).In base → base.Ns mainGlobals mg → FnOk l.prog w (K w.params) mg base CX0 7 fa fd ["script"] (Fe.spLaw (K w.params))) :
    PySem.W.WalkO q loose XP YP l.row.toRowW d [] (fun f vs => PySem.call f vs) :=
  L2.walk_of (n := 63) (k := 7) (x := "script") (CX := fun _ => CX0) (sp := fun w => Fe.spLaw (K w.params)) hn (by decide) hdf ⟨rfl, by decide, by decide⟩ hY F (fun _ _ a ns hl _ hS => ⟨a, ns, rfl, hS, hl, fun _ => rfl⟩) fun _ _ _ _ _ z => z
end Sg

set_option Elab.async false
set_option linter.all false
set_option maxRecDepth 100000
set_option maxHeartbeats 8000000
open PySem PySem.W PyProof.Rows
set_option maxRecDepth 100000 in
set_option maxHeartbeats 0 in
theorem PySem.Challenge.cw_spindlegate_k41_answers_that_are_due_holds : PySem.Challenge.rw_spindlegate_k41_answers_that_are_due.Holds := by
  w_on; o_law; k_head; (case hw => w_witness2)
  k_fill
  refine Sg.walk_law (l := PySem.Challenge.rw_spindlegate_k41_answers_that_are_due) rfl rfl (fun w h Y => PySem.W.kIn_of Y) ?F
  case F =>
    intro w mg fa h KX G hmg
    refine' Sg.all_mk KX G hmg ?aKo ?lKo ?cKo ?kKo ?aHw ?lHw ?cHw ?kHw ?aRf ?lRf ?cRf ?kRf ?aCn ?lCn ?cCn ?kCn ?aRk ?lRk ?cRk ?kRk ?aKp ?lKp ?cKp ?kKp ?aRr ?lRr ?cRr ?kRr ?aRp ?lRp ?cRp ?kRp ?aWh ?lWh ?cWh ?kWh ?aSo ?lSo ?cSo ?kSo ?aRc ?lRc ?cRc ?kRc ?aRs ?lRs ?cRs ?kRs ?aAd ?lAd ?cAd ?kAd ?aNo ?lNo ?cNo ?kNo ?aRd ?lRd ?cRd ?kRd ?aPo ?lPo ?cPo ?kPo ?aVd ?lVd ?cVd ?kVd ?aFd ?lFd ?cFd ?kFd ?aN ?lN ?cN ?kN ?aC ?lC ?cC ?kC ?aLf ?lLf ?cLf ?kLf ?aLs ?lLs ?cLs ?kLs ?aLh ?lLh ?cLh ?kLh ?aLe ?lLe ?cLe ?kLe ?aLr ?lLr ?cLr ?kLr ?aLc ?lLc ?cLc ?kLc ?aLi ?lLi ?cLi ?kLi ?aLx ?lLx ?cLx ?kLx ?aLv ?lLv ?cLv ?kLv ?aLg ?lLg ?cLg ?kLg ?aLk ?lLk ?cLk ?kLk ?aL ?lL ?cL ?kL ?gREADING ?lRe ?gCHANGING ?lCh ?gOF_REGISTERED ?lOr ?gRECORDLESS ?lRl ?gPARTS ?lPARTS ?kPARTS ?en0 ?lT0 ?en1 ?lT1 ?en2 ?lT2 ?en3 ?lT3 ?en4 ?lT4 ?en5 ?lT5 ?en6 ?lT6 ?en7 ?lT7 ?en8 ?lT8 ?en9 ?lT9 ?en10 ?lT10 ?en11 ?lT11 ?en12 ?lT12 ?en13 ?lT13 ?aN_ ?aS_ ?xNe ?kNe ?bNe ?tNe ?sNe ?iSe ?bSe ?tSe ?z_dict ?z_len ?z_abs ?z_int ?z_bool ?z_list ?z_tuple ?z_sorted ?z_range ?z_isinstance
    (case aKo => k_is)
    (case lKo => k_is)
    (case cKo => k_is)
    (case kKo => k_is)
    (case aHw => k_is)
    (case lHw => k_is)
    (case cHw => k_is)
    (case kHw => k_is)
    (case aRf => k_is)
    (case lRf => k_is)
    (case cRf => k_is)
    (case kRf => k_is)
    (case aCn => k_is)
    (case lCn => k_is)
    (case cCn => k_is)
    (case kCn => k_is)
    (case aRk => k_is)
    (case lRk => k_is)
    (case cRk => k_is)
    (case kRk => k_is)
    (case aKp => k_is)
    (case lKp => k_is)
    (case cKp => k_is)
    (case kKp => k_is)
    (case aRr => k_is)
    (case lRr => k_is)
    (case cRr => k_is)
    (case kRr => k_is)
    (case aRp => k_is)
    (case lRp => k_is)
    (case cRp => k_is)
    (case kRp => k_is)
    (case aWh => k_is)
    (case lWh => k_is)
    (case cWh => k_is)
    (case kWh => k_is)
    (case aSo => k_is)
    (case lSo => k_is)
    (case cSo => k_is)
    (case kSo => k_is)
    (case aRc => k_is)
    (case lRc => k_is)
    (case cRc => k_is)
    (case kRc => k_is)
    (case aRs => k_is)
    (case lRs => k_is)
    (case cRs => k_is)
    (case kRs => k_is)
    (case aAd => k_is)
    (case lAd => k_is)
    (case cAd => k_is)
    (case kAd => k_is)
    (case aNo => k_is)
    (case lNo => k_is)
    (case cNo => k_is)
    (case kNo => k_is)
    (case aRd => k_is)
    (case lRd => k_is)
    (case cRd => k_is)
    (case kRd => k_is)
    (case aPo => k_is)
    (case lPo => k_is)
    (case cPo => k_is)
    (case kPo => k_is)
    (case aVd => k_is)
    (case lVd => k_is)
    (case cVd => k_is)
    (case kVd => k_is)
    (case aFd => k_is)
    (case lFd => k_is)
    (case cFd => k_is)
    (case kFd => k_is)
    (case aN => k_is)
    (case lN => k_is)
    (case cN => k_is)
    (case kN => k_is)
    (case aC => k_is)
    (case lC => k_is)
    (case cC => k_is)
    (case kC => k_is)
    (case aLf => k_is)
    (case lLf => k_is)
    (case cLf => k_is)
    (case kLf => k_is)
    (case aLs => k_is)
    (case lLs => k_is)
    (case cLs => k_is)
    (case kLs => k_is)
    (case aLh => k_is)
    (case lLh => k_is)
    (case cLh => k_is)
    (case kLh => k_is)
    (case aLe => k_is)
    (case lLe => k_is)
    (case cLe => k_is)
    (case kLe => k_is)
    (case aLr => k_is)
    (case lLr => k_is)
    (case cLr => k_is)
    (case kLr => k_is)
    (case aLc => k_is)
    (case lLc => k_is)
    (case cLc => k_is)
    (case kLc => k_is)
    (case aLi => k_is)
    (case lLi => k_is)
    (case cLi => k_is)
    (case kLi => k_is)
    (case aLx => k_is)
    (case lLx => k_is)
    (case cLx => k_is)
    (case kLx => k_is)
    (case aLv => k_is)
    (case lLv => k_is)
    (case cLv => k_is)
    (case kLv => k_is)
    (case aLg => k_is)
    (case lLg => k_is)
    (case cLg => k_is)
    (case kLg => k_is)
    (case aLk => k_is)
    (case lLk => k_is)
    (case cLk => k_is)
    (case kLk => k_is)
    (case aL => k_is)
    (case lL => k_is)
    (case cL => k_is)
    (case kL => k_is)
    (case gREADING => k_is)
    (case lRe => k_is)
    (case gCHANGING => k_is)
    (case lCh => k_is)
    (case gOF_REGISTERED => k_is)
    (case lOr => k_is)
    (case gRECORDLESS => k_is)
    (case lRl => k_is)
    (case gPARTS => k_is)
    (case lPARTS => k_is)
    (case kPARTS => first | k_is | (repeat' (first | exact trivial | refine ⟨⟨_, _, rfl, rfl⟩, ?_⟩)))
    (case en0 => k_is)
    (case lT0 => k_is)
    (case en1 => k_is)
    (case lT1 => k_is)
    (case en2 => k_is)
    (case lT2 => k_is)
    (case en3 => k_is)
    (case lT3 => k_is)
    (case en4 => k_is)
    (case lT4 => k_is)
    (case en5 => k_is)
    (case lT5 => k_is)
    (case en6 => k_is)
    (case lT6 => k_is)
    (case en7 => k_is)
    (case lT7 => k_is)
    (case en8 => k_is)
    (case lT8 => k_is)
    (case en9 => k_is)
    (case lT9 => k_is)
    (case en10 => k_is)
    (case lT10 => k_is)
    (case en11 => k_is)
    (case lT11 => k_is)
    (case en12 => k_is)
    (case lT12 => k_is)
    (case en13 => k_is)
    (case lT13 => k_is)
    (case aN_ => k_is)
    (case aS_ => k_is)
    (case xNe => k_exc)
    (case kNe => k_is)
    (case bNe => k_is)
    (case tNe => k_is)
    (case sNe => first | rfl | k_is)
    (case iSe => k_is)
    (case bSe => k_is)
    (case tSe => k_is)
    (case z_dict => k_is)
    (case z_len => k_is)
    (case z_abs => k_is)
    (case z_int => k_is)
    (case z_bool => k_is)
    (case z_list => k_is)
    (case z_tuple => k_is)
    (case z_sorted => k_is)
    (case z_range => k_is)
    (case z_isinstance => k_is)

