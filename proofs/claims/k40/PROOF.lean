import PyProof.Rows.All
import Wide.All
import OpenK.AllK
import Wide.FinOn
import HandS.Base
import HandS.Call
import HandS.List
import HandS.Comp
import HandS.Ends
import HandS.Dict
import HandS.Iter
import HandS.Text
import HandS.Words
import HandS.WordsList
import HandS.Steps
import HandS.Evl
import HandS.Exc
import HandS.TryOnly
import HandS.ExcOwn
import HandS.WordsExc
import HandS.IsInst
import HandS.ExcIs
import HandS.Deep
import HandS.More
import HandS.WrittenGet
import KE.KIndexOf
import HandS.Zip
import HandS.Star
import PySem.Challenge.RW_spindlegate_k40_what_is_a_command
set_option Elab.async false
set_option linter.all false
set_option maxRecDepth 100000
set_option maxHeartbeats 4000000
/-! General lemmas: readings of expressions, small heaps, lists. -/
namespace Sg
open PySem PySem.Spec PyProof.Rows L2
section
variable {σ : L2.St} {H : Hp} {ta tb te : TE} {i j : Int} {K : PySem.W.Frag} {x y z : V}
theorem v0 {g : Int → Int → V} (ha : Val ta σ H (.int i)) (hb : Val tb σ H (.int j)) : Val (tOp (rI0 g) ta tb) σ H (g i j) := val_op ha hb fun _ q => ⟨i, j, rfl, rfl, q⟩
theorem vc {C : Int → Int → Prop} {g : Int → Int → V} (ha : Val ta σ H (.int i)) (hb : Val tb σ H (.int j)) (hc : C i j) : Val (tOp (rI C g) ta tb) σ H (g i j) := val_op ha hb fun _ q => ⟨i, j, rfl, rfl, hc, q⟩
theorem vEq (ha : Val ta σ H x) (hb : Val tb σ H y) (hs : scal x y = true) : Val (tOp rEq ta tb) σ H (.bl (decide (x = y))) := val_op ha hb fun _ q => ⟨hs, q⟩
theorem vNe (ha : Val ta σ H x) (hb : Val tb σ H y) (hs : scal x y = true) : Val (tOp rNe ta tb) σ H (.bl (!decide (x = y))) := val_op ha hb fun _ q => ⟨hs, q⟩
theorem vIx {p : Addr} {xs : List V} {n : Nat} (ha : Val ta σ H (.ref p)) (hb : Val tb σ H (.int (n : Int))) (hp : SqL K H p xs) (hn : xs[n]? = some z) : Val (tOp (rIxL K) ta tb) σ H z :=
  val_op ha hb fun _ q => ⟨p, xs, _, z, rfl, rfl, hp, atI_nat hn, q⟩
theorem vIs {v w : V} (h : Val te σ H v) (e : v = w) : Val te σ H w := e ▸ h
/-- a built-in's call of one argument -/
theorem vCB1 {r : List V → Hp → VK → Prop} (ha : Val ta σ H x) (hr : ∀ Q : VK, Q z H → r [x] H Q) : Val (tCB r (tCons ta tNil)) σ H z := fun Q q => ha _ (hr Q q)
theorem vCB2 {r : List V → Hp → VK → Prop} (ha : Val ta σ H x) (hb : Val tb σ H y) (hr : ∀ Q : VK, Q z H → r [x, y] H Q) : Val (tCB r (tCons ta (tCons tb tNil))) σ H z := fun Q q => ha _ (hb _ (hr Q q))
theorem aTest {b : Bool} (h : Val te σ H (.bl b)) : Ans (tTest te) σ H b := fun Q q => h _ ⟨b, rfl, q⟩
end
theorem map_get {α β : Type} {f : α → β} {l : List α} {i : Nat} {y : β} (h : (l.map f)[i]? = some y) : ∃ z, l[i]? = some z ∧ y = f z := by
  rw [List.getElem?_map] at h
  cases e : l[i]? with
  | none =>
    rw [e] at h
    cases h
  | some z =>
    rw [e] at h
    exact ⟨z, rfl, (Option.some.inj h).symm⟩
theorem get_map {α β : Type} {f : α → β} {l : List α} {i : Nat} {z : α} (h : l[i]? = some z) : (l.map f)[i]? = some (f z) := by rw [List.getElem?_map, h]; rfl
theorem upd_two {H : Hp} {a : Addr} {o u : HO} : upd (upd H a o) a u = upd H a u := upd_upd
theorem same_new {H : Hp} {p : Addr} {o : HO} (h : H p = Option.none) : Same H (upd H p o) := fun b u e => by
  rw [upd_ne (ne_of_none e h)]
  exact e
end Sg

set_option Elab.async false
set_option linter.all false
set_option maxRecDepth 100000
set_option maxHeartbeats 4000000
namespace Sg
open PySem PySem.Spec PyProof.Rows L2
/-! ### rules of our own -/
section
variable {X : Cx}
/-- C(), an own exception without an __init__ of its own -/
theorem pmk_own0 {C : Addr} {bmB : List Value} {B newId initId : String} {x : Str} {p pos : Pos} (F : ExcBaseFacts B newId initId bmB) (q : PySem.W.excIn X.K C bmB newId = true) (gC : X.mg x = some (.ref C))
    (kC : PySem.W.keepIn X.K (.ref C) = true) (r : Raises X (.ref C)) (hg : Gl X x) (hdb : (x == ("__debug__" : Str)) = false := by decide) :
    PMk X (.Call (.Name x p) [] [] pos) (fun _ H Q => Q (.ref C) none H) := by
  intro pins s σ H Q I h
  refine wpAny_Call_Name_kw (ld_glob I hg gC ?_ hdb)
  refine PySem.W.callWith_K0 I.kIn kC ?_
  obtain ⟨bm, N, nm, qn, bs, hdct, sn, sub, ab, col, dd, k0, k1, k2, k3, k5, mN, hC, hN, hni, T⟩ := exc_obj I.kIn q
  exact wpAny_call_exc_subT F T hC hN hni (fun h' e hm => mk_of I hm r h (I.hok.gone hm.new)) (Nat.zero_le _)
/-- o[i] of a list, by values, a place in bounds from the left -/
def rGetL (K : PySem.W.Frag) : V → V → Hp → VK → Prop := fun o i H Q => ∃ p xs n v, o = .ref p ∧ i = .int ((n : Nat) : Int) ∧ SqL K H p xs ∧ xs[n]? = some v ∧ Q v H
theorem get_list : PGet X (rGetL X.K) := by
  intro pins s σ H o i ov iv Q I ro ri h
  obtain ⟨p, xs, n, v, rfl, rfl, hq, he, q⟩ := h
  cases ro
  obtain ⟨t, rfl⟩ := ri
  obtain ⟨its, r, pl, hz⟩ := I.list hq
  obtain ⟨w, ew, rw'⟩ := r.get he
  have hl := r.length
  have hn := line63
  have hb := (List.getElem?_eq_some_iff.mp he).1
  exact wpAny_getItem_list pl.isList (by omega) (by omega) (by simpa using ew) ⟨v, H, I, rw', q⟩
/-- l.count(y): how many are equal, data of any depth -/
def rCountD (K : PySem.W.Frag) : V → List V → Hp → VK → Prop := fun x xs H Q => ∃ (a : Addr) (y : V) (d : PyData) (ds : List PyData), x = V.ref a ∧ xs = [y] ∧ Dp K H (V.ref a) (.list ds) ∧ Dp K H y d ∧
  SeqAt.shaped (.list ds) = true ∧ SeqAt.shaped d = true ∧ Q (.int (ds.countP (fun z => PyData.eqv z d) : Nat)) H
theorem mt_countD (hu : X.A.units + 65 < cLine) : MtR X "list.count" (rCountD X.K) := by
  intro pins s σ H x xs v us Q I rx rxs h
  obtain ⟨a, y, d, ds, rfl, rfl, hl, hy, sl, sd, q⟩ := h
  cases rx
  cases rxs with
  | cons ry rt =>
    rename_i uy ut
    cases rt
    obtain ⟨bs, r1⟩ := Dp.reads I d y uy hy ry
    have hxs : PyData.canLayAll0 ds = true := SeqAt.canLay_of_shaped sl
    have hroom : X.A.units + 1 + min (PyData.depthAll ds) d.depth < cLine := room_in_shaped sd hu
    cases hl with
    | lst hs ha =>
      obtain ⟨its, rv, ⟨⟨cls, dd, data, sls⟩, n, ho, hc, hdn, hdt⟩, hlen⟩ := I.list hs
      simp only at hc hdt
      subst hc hdt
      obtain ⟨as, h4⟩ := Dp.readsAll I ds _ its ha rv
      have hmap : its.map (SeqAt.readOf s.heap) = ds := SeqAt.readsAll_map ds its as hxs h4
      refine call_meets PySem.F.slot_list_count ⟨_, ho, rfl⟩ PySem.F.entry_list_count (PySem.F.args_list_count_2 _ _)
        (SeqAt.list_countAt a its.toArray n dd sls uy (fun u => PyData.eqv (SeqAt.readOf s.heap u) d)) ⟨ho, SeqAt.items_eqAt (vs := its.toArray) (show ReadsAll s.heap its.toArray.toList ds as from h4) r1 hxs (SeqAt.canLay_of_shaped sd) hroom, ?_⟩
      have ec : its.toArray.toList.countP (fun u => PyData.eqv (SeqAt.readOf s.heap u) d) = ds.countP (fun z => PyData.eqv z d) := by
        rw [← hmap, List.countP_map]
        rfl
      refine ⟨.int (ds.countP (fun z => PyData.eqv z d) : Nat), H, I.tok _, ⟨s.toks, ?_⟩, q⟩
      show Value.int ((its.toArray.toList.countP (fun u => PyData.eqv (SeqAt.readOf s.heap u) d) : Nat) : Int) s.toks = _
      rw [ec]
/-- isinstance(e, c), e the exception that the suite holds, whatever its class is -/
def rIsX (K : PySem.W.Frag) (a : Addr) (cls : Value) (d : Option Addr) : List V → Hp → VK → Prop := fun xs H Q => ∃ (D : Addr) (c : V) (cv : Value) (b : Bool), cls = .ref D ∧ d = none ∧ ExcC K D ∧ xs = [.ref a, c] ∧ (∀ u, RelV c u → u = cv) ∧ PySem.W.kitOne K (.ref D) cv = some b ∧ Q (.bl b) H
theorem call_isX {a : Addr} {oe : Obj} {cls : Value} {d : Option Addr} {pn : List (Addr × Obj)} (hz : Zc cls d oe) (hf : ∃ vs, oe.data = .fields vs) : CallR (X.suite a ((a, oe) :: pn)) (.builtin "isinstance") (rIsX X.K a cls d) := by
  intro pins s σ H xs us Q I r h
  obtain ⟨D, c, cv, b, rfl, rfl, C, rfl, hcv, e, q⟩ := h
  exact call_isE C hz hf pins s σ H _ us Q I r ⟨c, cv, b, rfl, hcv, e, q⟩
end
/-- an exception of a subclass is what the clause names -/
theorem exm_sub {K : PySem.W.Frag} {S T : Addr} (h1 : PySem.W.subIn K (.ref T) (.type "BaseException") = some true) (h2 : PySem.W.isClsIn K T = true) (h3 : PySem.W.typeIn K (.ref T) = some (.type "type")) (h4 : PySem.W.subIn K (.ref S) (.ref T) = some true) :
    PySem.W.exmOne K (.ref S) (.ref T) = some true := by
  have e1 : (PySem.W.subIn K (.ref T) (.type "BaseException") == some true) = true := by rw [h1] <;> rfl
  have e2 : ((PySem.W.clsIn K T).isSome && PySem.W.typeIn K (.ref T) == some (.type "type")) = true := by
    have h2' : (PySem.W.clsIn K T).isSome = true := h2
    rw [h2', h3] <;> rfl
  show (if (PySem.W.subIn K (.ref T) (.type "BaseException") == some true) = true then (if ((PySem.W.clsIn K T).isSome && PySem.W.typeIn K (.ref T) == some (.type "type")) = true then PySem.W.subIn K (.ref S) (.ref T) else none) else none) = some true
  rw [if_pos e1, if_pos e2]
  exact h4
end Sg

set_option Elab.async false
set_option linter.all false
set_option maxRecDepth 100000
set_option maxHeartbeats 4000000
namespace Sg
open PySem PySem.Spec PyProof.Rows L2
def top (i : Nat) : Stmt := PySem.Challenge.pw_spindlegate_k40_what_is_a_command.main.body.getD i (.Pass ⟨0, 0, 0, 0⟩)
abbrev sWhole : Stmt := top 1
abbrev sAtLeast : Stmt := top 2
abbrev sBetween : Stmt := top 3
abbrev sIsCmd : Stmt := top 9
abbrev sNsOf : Stmt := top 10
abbrev sIsPart : Stmt := top 11
abbrev sNext : Stmt := top 13
abbrev sNumber : Stmt := top 14
abbrev sParts : Stmt := top 15
abbrev sInteger : Stmt := top 16
abbrev sSize : Stmt := top 17
abbrev sLast : Stmt := top 18
abbrev sDue : Stmt := top 19
abbrev sLaw : Stmt := top 20
structure Def (P : Program) (wd : World) (K : PySem.W.Frag) (mg : Str → Option Value) (base : Heap) (CX : CXT) (x : Str) (k : Nat) (ps : List Str) (sp : Sp) (f : Addr) (fd : FuncData) : Prop where
  ok : FnOk P wd K mg base CX k f fd ps sp
  bd : Binds K fd ps []
  kp : PySem.W.keepIn K (.ref f) = true
  mg : mg x = some (.ref f)
/-! ### what is kept -/
/-- every tuple is kept -/
structure TK (H H' : Hp) : Prop where
  t : ∀ a xs, H a = some (.tup xs) → H' a = some (.tup xs)
  f : ∀ a o xs, H a = some (.frz o (.tup xs)) → H' a = some (.frz o (.tup xs))
theorem TK.refl (H : Hp) : TK H H := ⟨fun _ _ h => h, fun _ _ _ h => h⟩
theorem TK.trans {H H1 H2 : Hp} (a : TK H H1) (b : TK H1 H2) : TK H H2 := ⟨fun x y h => b.t _ _ (a.t _ _ h), fun x y z h => b.f _ _ _ (a.f _ _ _ h)⟩
theorem TK.of {H H' : Hp} (s : Same H H') : TK H H' := ⟨fun _ _ h => s _ _ h, fun _ _ _ h => s _ _ h⟩
def Off (xs : List Addr) (H H' : Hp) : Prop := ∀ b o, H b = some o → b ∉ xs → H' b = some o
theorem Off.refl {xs : List Addr} (H : Hp) : Off xs H H := fun _ _ h _ => h
theorem Off.trans {xs : List Addr} {H H1 H2 : Hp} (a : Off xs H H1) (b : Off xs H1 H2) : Off xs H H2 := fun x o h n => b _ _ (a _ _ h n) n
theorem Off.of {xs : List Addr} {H H' : Hp} (s : Same H H') : Off xs H H' := fun _ _ h _ => s _ _ h
theorem Off.upd {xs : List Addr} {H : Hp} {p : Addr} {o : HO} (h : p ∈ xs) : Off xs H (upd H p o) := fun b u e n => by
  rw [upd_ne (fun (z : b = p) => n (by rw [z]; exact h))]; exact e
/-- lists and dicts alone were changed -/
theorem TK.off {xs : List Addr} {H H' : Hp} (o : Off xs H H') (h : ∀ x ∈ xs, (∃ l, H x = some (.lst l)) ∨ ∃ d, H x = some (.dK d)) : TK H H' := by
  refine ⟨fun a l e => o _ _ e fun m => ?_, fun a b l e => o _ _ e fun m => ?_⟩
  · rcases h a m with ⟨z, q⟩ | ⟨z, q⟩ <;> (rw [e] at q; cases q)
  · rcases h a m with ⟨z, q⟩ | ⟨z, q⟩ <;> (rw [e] at q; cases q)
section
variable {K : PySem.W.Frag} {H H' : Hp}
theorem sqT_tk {a : Addr} {xs : List V} (h : SqT K H a xs) (s : TK H H') : SqT K H' a xs := by
  rcases h with (h | ⟨o, h⟩) | h
  · exact .inl (.inl (s.t _ _ h))
  · exact .inl (.inr ⟨o, s.f _ _ _ h⟩)
  · exact .inr h
end
def strIn (s : Str) (ns : List Str) : Bool := ns.any fun y => decide (y = s)
theorem inV_str {s : Str} : ∀ {ns : List Str}, inV (.str s) (ns.map V.str) = strIn s ns
  | [] => rfl
  | n :: ns => by
    show (eqV (.str n) (.str s) || inV (.str s) (ns.map V.str)) = (decide (n = s) || strIn s ns)
    rw [inV_str (ns := ns)]
    rfl
theorem flat_strs : ∀ {ns : List Str}, (ns.map V.str).all flatV = true
  | [] => rfl
  | n :: ns => by rw [List.map_cons, List.all_cons, flat_strs (ns := ns)]; rfl
def strInD (ns : List Str) : PyData → Bool
  | .str s => strIn s ns
  | _ => false
theorem str_eqT {x : Str} : decide (V.str x = V.str x) = true := decide_eq_true rfl
theorem str_eqF {x y : Str} (h : ¬ x = y) : decide (V.str x = V.str y) = false := decide_eq_false (fun z => h (by cases z; rfl))
theorem nil_ {σ : L2.St} {H : Hp} {Q : List V → Hp → Prop} (h : Q [] H) : tNil σ H Q := h
theorem tc_ {σ : L2.St} {H : Hp} {v : V} {Q : List V → Hp → Prop} (h : Q [v] H) : tCons (tC v) tNil σ H Q := h
theorem yesIte {σ : L2.St} {H : Hp} {A B : Hp → Prop} (h : A H) : tYes σ H (fun b H3 => if b = true then A H3 else B H3) := by
  show (if true = true then A H else B H)
  rw [if_pos rfl]; exact h
end Sg

set_option Elab.async false
set_option linter.all false
set_option maxRecDepth 100000
set_option maxHeartbeats 4000000
namespace Sg
open PySem PySem.Spec PyProof.Rows L2
/-! ### data -/
def intB : PyData → Bool
  | .int _ => true
  | .bool _ => true
  | _ => false
def boolB : PyData → Bool
  | .bool _ => true
  | _ => false
def strB : PyData → Bool
  | .str _ => true
  | _ => false
def tupB : PyData → Bool
  | .tuple _ => true
  | _ => false
def lstB : PyData → Bool
  | .list _ => true
  | _ => false
def wholeD : PyData → Bool
  | .int _ => true
  | _ => false
def atLeastD (lo : Int) : PyData → Bool
  | .int i => decide (lo ≤ i)
  | _ => false
def betwD (lo hi : Int) : PyData → Bool
  | .int i => decide (lo ≤ i) && decide (i ≤ hi)
  | _ => false
/-- what a value's type is, by its data -/
theorem dp_ty {K : PySem.W.Frag} {H : Hp} {x : V} {d : PyData} (h : Dp K H x d) : ∃ t, TyX K H x t ∧ PySem.W.kitOne K t (.type "int") = some (intB d) ∧ PySem.W.kitOne K t (.type "bool") = some (boolB d) ∧ PySem.W.kitOne K t (.type "str") = some (strB d) ∧
    PySem.W.kitOne K t (.type "tuple") = some (tupB d) ∧ PySem.W.kitOne K t (.type "list") = some (lstB d) := by
  cases h with
  | non => exact ⟨_, .base .non, (show PySem.W.kitOne K (.type "NoneType") (.type "int") = some false from kit_ty (by decide +kernel)), (show PySem.W.kitOne K (.type "NoneType") (.type "bool") = some false from kit_ty (by decide +kernel)), (show PySem.W.kitOne K (.type "NoneType") (.type "str") = some false from kit_ty (by decide +kernel)), (show PySem.W.kitOne K (.type "NoneType") (.type "tuple") = some false from kit_ty (by decide +kernel)), (show PySem.W.kitOne K (.type "NoneType") (.type "list") = some false from kit_ty (by decide +kernel))⟩
  | bl b => exact ⟨_, .base (.bl b), (show PySem.W.kitOne K (.type "bool") (.type "int") = some true from kit_ty (by decide +kernel)), (show PySem.W.kitOne K (.type "bool") (.type "bool") = some true from kit_ty (by decide +kernel)), (show PySem.W.kitOne K (.type "bool") (.type "str") = some false from kit_ty (by decide +kernel)), (show PySem.W.kitOne K (.type "bool") (.type "tuple") = some false from kit_ty (by decide +kernel)), (show PySem.W.kitOne K (.type "bool") (.type "list") = some false from kit_ty (by decide +kernel))⟩
  | int i => exact ⟨_, .base (.int i), (show PySem.W.kitOne K (.type "int") (.type "int") = some true from kit_ty (by decide +kernel)), (show PySem.W.kitOne K (.type "int") (.type "bool") = some false from kit_ty (by decide +kernel)), (show PySem.W.kitOne K (.type "int") (.type "str") = some false from kit_ty (by decide +kernel)), (show PySem.W.kitOne K (.type "int") (.type "tuple") = some false from kit_ty (by decide +kernel)), (show PySem.W.kitOne K (.type "int") (.type "list") = some false from kit_ty (by decide +kernel))⟩
  | str x => exact ⟨_, .base (.str x), (show PySem.W.kitOne K (.type "str") (.type "int") = some false from kit_ty (by decide +kernel)), (show PySem.W.kitOne K (.type "str") (.type "bool") = some false from kit_ty (by decide +kernel)), (show PySem.W.kitOne K (.type "str") (.type "str") = some true from kit_ty (by decide +kernel)), (show PySem.W.kitOne K (.type "str") (.type "tuple") = some false from kit_ty (by decide +kernel)), (show PySem.W.kitOne K (.type "str") (.type "list") = some false from kit_ty (by decide +kernel))⟩
  | lst hs _ =>
    refine ⟨.type "list", ?_, (show PySem.W.kitOne K (.type "list") (.type "int") = some false from kit_ty (by decide +kernel)), (show PySem.W.kitOne K (.type "list") (.type "bool") = some false from kit_ty (by decide +kernel)), (show PySem.W.kitOne K (.type "list") (.type "str") = some false from kit_ty (by decide +kernel)), (show PySem.W.kitOne K (.type "list") (.type "tuple") = some false from kit_ty (by decide +kernel)), (show PySem.W.kitOne K (.type "list") (.type "list") = some true from kit_ty (by decide +kernel))⟩
    rcases hs with (h | ⟨o, h⟩) | ⟨o, its, n, h1, h2, _⟩
    · exact .base (.lst h)
    · exact .base (.frz h)
    · exact .kList h1 h2
  | tup hs _ =>
    refine ⟨.type "tuple", ?_, (show PySem.W.kitOne K (.type "tuple") (.type "int") = some false from kit_ty (by decide +kernel)), (show PySem.W.kitOne K (.type "tuple") (.type "bool") = some false from kit_ty (by decide +kernel)), (show PySem.W.kitOne K (.type "tuple") (.type "str") = some false from kit_ty (by decide +kernel)), (show PySem.W.kitOne K (.type "tuple") (.type "tuple") = some true from kit_ty (by decide +kernel)), (show PySem.W.kitOne K (.type "tuple") (.type "list") = some false from kit_ty (by decide +kernel))⟩
    rcases hs with (h | ⟨o, h⟩) | ⟨o, its, n, h1, h2, _⟩
    · exact .base (.tup h)
    · exact .fTuple h
    · exact .kTuple h1 h2
theorem SqT_same {K : PySem.W.Frag} {H H' : Hp} {a : Addr} {xs : List V} (s : Same H H') (h : SqT K H a xs) : SqT K H' a xs := by
  rcases h with (h | ⟨o, h⟩) | h
  · exact .inl (.inl (s _ _ h))
  · exact .inl (.inr ⟨o, s _ _ h⟩)
  · exact .inr h
mutual
theorem dp_same {K : PySem.W.Frag} {H H' : Hp} (s : Same H H') : ∀ (d : PyData) (x : V), Dp K H x d → Dp K H' x d
  | .none, _, h => by cases h; exact .non
  | .bool _, _, h => by cases h; exact .bl _
  | .int _, _, h => by cases h; exact .int _
  | .str _, _, h => by cases h; exact .str _
  | .list ds, _, h => by
    cases h with
    | lst hs ha => exact .lst (s.seq hs) (dpAll_same s ds _ ha)
  | .tuple ds, _, h => by
    cases h with
    | tup hs ha => exact .tup (SqT_same s hs) (dpAll_same s ds _ ha)
  | .dict _, _, h => by cases h
theorem dpAll_same {K : PySem.W.Frag} {H H' : Hp} (s : Same H H') : ∀ (ds : List PyData) (xs : List V), DpAll K H xs ds → DpAll K H' xs ds
  | [], _, h => by cases h; exact .nil
  | d :: ds, _, h => by
    cases h with
    | cons a b => exact .cons (dp_same s d _ a) (dpAll_same s ds _ b)
end
structure Bds (mg : Str → Option Value) (fW : Addr) : Prop where
  isi : mg "isinstance" = none
  int : mg "int" = none
  bool : mg "bool" = none
  str : mg "str" = none
  tup : mg "tuple" = none
  lst : mg "list" = none
  gW : mg "is_whole" = some (.ref fW)
theorem boot_isi : bootBuiltins "isinstance" = some (.builtin "isinstance") := by decide +kernel
def spWhole (K : PySem.W.Frag) : Sp := fun vs H Q _ => ∃ x d, vs = [x] ∧ Dp K H x d ∧ Q (.bl (wholeD d)) H
def spAtLeast (K : PySem.W.Frag) : Sp := fun vs H Q _ => ∃ x d lo, vs = [x, .int lo] ∧ Dp K H x d ∧ Q (.bl (atLeastD lo d)) H
def spBetween (K : PySem.W.Frag) : Sp := fun vs H Q _ => ∃ x d lo hi, vs = [x, .int lo, .int hi] ∧ Dp K H x d ∧ Q (.bl (betwD lo hi d)) H
theorem whole_eq (d : PyData) : (intB d && !boolB d) = wholeD d := by cases d <;> rfl
theorem not_whole_at {lo : Int} {d : PyData} (h : wholeD d = false) : atLeastD lo d = false := by cases d <;> first | rfl | cases h
theorem not_whole_bt {lo hi : Int} {d : PyData} (h : wholeD d = false) : betwD lo hi d = false := by cases d <;> first | rfl | cases h
theorem whole_int {K : PySem.W.Frag} {H : Hp} {x : V} {d : PyData} (h : Dp K H x d) (w : wholeD d = true) : ∃ i, x = .int i ∧ d = .int i := by
  cases h <;> first | exact ⟨_, rfl, rfl⟩ | cases w
section
variable {P : Program} {wrl : World} {K : PySem.W.Frag} {mg : Str → Option Value} {base : Heap} {f fW : Addr} {fd fdW : FuncData}
theorem scWhole : FnScope ["value"] ["value"] (defScope sWhole) := ⟨rfl, rfl, rfl, by decide +kernel, rfl, by decide +kernel, by decide +kernel⟩
theorem ok_whole (F : Fun K "is_whole" "is_whole" sWhole f fd) (B : Bds mg fW) : FnOk P wrl K mg base CX0 1 f fd ["value"] (spWhole K) := by
  refine F.ok scWhole (fun vs H Q E h => ?_) (fun cdv A outer s H vs Q E hr h => ?_)
  · obtain ⟨x, d, rfl, _⟩ := h
    rfl
  · obtain ⟨x, d, rfl, hd, q⟩ := h
    obtain ⟨t, ty, h1, h2, _⟩ := dp_ty hd
    refine ⟨_, pss_one (ps_ret (pe_and (pe_callB call_isi (by rfl) B.isi boot_isi (pa_cons (pv 0) (pa_cons (pe_bltn (v := .ty "int") (by rfl) B.int boot_int rfl) pa_nil)))
      (pe_one (pe_not (pe_callB call_isi (by rfl) B.isi boot_isi (pa_cons (pv 0) (pa_cons (pe_bltn (v := .ty "bool") (by rfl) B.bool boot_bool rfl) pa_nil))))))), ?_⟩
    rw [← whole_eq] at q
    refine ⟨_, rfl, x, _, t, _, _, rfl, .ty "int", ty, h1, _, rfl, ?_⟩
    cases hb : intB d with
    | true =>
      rw [hb] at q
      exact iteT ⟨_, rfl, x, _, t, _, _, rfl, .ty "bool", ty, h2, _, rfl, q⟩
    | false =>
      rw [hb] at q
      exact iteF q
theorem scAtLeast : FnScope ["value", "low"] ["value", "low"] (defScope sAtLeast) := ⟨rfl, rfl, rfl, by decide +kernel, rfl, by decide +kernel, by decide +kernel⟩
theorem ok_atLeast (F : Fun K "is_at_least" "is_at_least" sAtLeast f fd) (B : Bds mg fW) (FW : Fun K "is_whole" "is_whole" sWhole fW fdW) (bW : Binds K fdW ["value"] []) : FnOk P wrl K mg base CX0 2 f fd ["value", "low"] (spAtLeast K) := by
  have GW : FnOk P wrl K mg base CX0 1 fW fdW ["value"] (spWhole K) := ok_whole FW B
  refine F.ok scAtLeast (fun vs H Q E h => ?_) (fun cdv A outer s H vs Q E hr h => ?_)
  · obtain ⟨x, d, lo, rfl, _⟩ := h
    rfl
  · obtain ⟨x, d, lo, rfl, hd, q⟩ := h
    refine ⟨_, pss_one (ps_ret (pe_and (pe_call GW hr (by rfl) B.gW FW.kp bW .nil pass0 (pa_cons (pv 0) pa_nil)) (pe_one (pe_cmpR op_ge (pv 0) (pv 1) (nomark _))))), ?_⟩
    refine ⟨_, rfl, x, d, rfl, hd, _, rfl, ?_⟩
    cases hw : wholeD d with
    | false =>
      rw [not_whole_at hw] at q
      exact iteF q
    | true =>
      obtain ⟨i, rfl, rfl⟩ := whole_int hd hw
      exact iteT ⟨_, rfl, _, rfl, _, _, rfl, rfl, q⟩
theorem scBetween : FnScope ["value", "low", "high"] ["value", "low", "high"] (defScope sBetween) := ⟨rfl, rfl, rfl, by decide +kernel, rfl, by decide +kernel, by decide +kernel⟩
theorem ok_between (F : Fun K "is_between" "is_between" sBetween f fd) (B : Bds mg fW) (FW : Fun K "is_whole" "is_whole" sWhole fW fdW) (bW : Binds K fdW ["value"] []) : FnOk P wrl K mg base CX0 2 f fd ["value", "low", "high"] (spBetween K) := by
  have GW : FnOk P wrl K mg base CX0 1 fW fdW ["value"] (spWhole K) := ok_whole FW B
  refine F.ok scBetween (fun vs H Q E h => ?_) (fun cdv A outer s H vs Q E hr h => ?_)
  · obtain ⟨x, d, lo, hi, rfl, _⟩ := h
    rfl
  · obtain ⟨x, d, lo, hi, rfl, hd, q⟩ := h
    refine ⟨_, pss_one (ps_ret (pe_and (pe_call GW hr (by rfl) B.gW FW.kp bW .nil pass0 (pa_cons (pv 0) pa_nil)) (pe_one (pe_chain op_le op_le (pv 1) (pv 0) (pv 2))))), ?_⟩
    refine ⟨_, rfl, x, d, rfl, hd, _, rfl, ?_⟩
    cases hw : wholeD d with
    | false =>
      rw [not_whole_bt hw] at q
      exact iteF q
    | true =>
      obtain ⟨i, rfl, rfl⟩ := whole_int hd hw
      refine iteT ⟨_, rfl, _, rfl, _, _, rfl, rfl, _, rfl, ?_⟩
      by_cases c : lo ≤ i
      · rw [show betwD lo hi (.int i) = (decide (lo ≤ i) && decide (i ≤ hi)) from rfl, decide_eq_true c] at q
        rw [if_pos (decide_eq_true c)]
        exact ⟨_, rfl, _, _, rfl, rfl, q⟩
      · rw [show betwD lo hi (.int i) = (decide (lo ≤ i) && decide (i ≤ hi)) from rfl, decide_eq_false c] at q
        rw [if_neg (by rw [decide_eq_false c]; exact Bool.false_ne_true)]
        exact q
end
end Sg

set_option Elab.async false
set_option linter.all false
set_option maxRecDepth 100000
set_option maxHeartbeats 4000000
namespace Sg
open PySem PySem.Spec PyProof.Rows L2
open HT
section
variable {prog : Program} {w : World} {A : Around} {E : Value → Shared → Prop} {s : Shared}
/-- t[lo:hi] that takes all of a tuple is the tuple itself -/
theorem tup_all {t sl : Addr} {items : Array Value} {vl vu : Value} {lo hi : Option Int} {Q : Value → Shared → Prop} (ht : IsTup s.heap t items) (hs : s.heap.IsSliceOf sl vl vu .none) (pl : IsPart vl lo) (pu : IsPart vu hi)
    (h1 : sIx items.size 0 lo = 0) (h2 : sIx items.size items.size hi = items.size) (h : Q (.ref t) s) : wpAny (model prog w) A (getItem (.ref t) (.ref sl)) Q E s := by
  obtain ⟨os, hos, hcs, hds⟩ := id hs
  have hTs : s.TypeIs (.ref sl) "slice" := ⟨os, hos, hcs⟩
  unfold getItem
  try with_reducible refine wpAny_holding ?_
  first | refine wpAny_bind (wpAny_pure ?_) | skip
  refine wpAny_bind (wpAny_sequenceKey ht.typeIs (by decide) ?_)
  refine wpAny_bind (wpAny_callSpecial?_slot (name := Str.ofString "__getitem__") ht.typeIs PyProof.Rows.slot_tuple_getitem
    (wpAny_call_entry PyProof.Rows.slot_tuple_getitem ht.typeIs entry_tuple_getitem ?_ (args_tuple_getitem _ _)))
  show wpAny _ _ (Builtin.Tuple.tupleItemsOf (.ref t) >>= _) _ _ s
  refine wpAny_bind (tupleItemsOf_ ht (wpAny_bind (wpAny_typeOf hTs ?_)))
  rw [if_pos (by decide)]
  refine wpAny_bind (sliceApplied_gen hs pl pu ?_)
  rw [h1, h2]
  show wpAny _ _ (if (((0 : Nat) : Int) == 0 && (1 : Int) == 1 && (items.size - 0) == items.size) = true then _ else _) _ _ s
  rw [if_pos (by simp)]
  show wpAny _ _ (Builtin.Tuple.tupleIsExact (.ref t) >>= _) _ _ s
  refine wpAny_bind (m := Builtin.Tuple.tupleIsExact _) ?_
  unfold Builtin.Tuple.tupleIsExact
  refine wpAny_bind (wpAny_typeOf ht.typeIs (wpAny_pure ?_))
  rw [if_pos (by decide)]
  exact wpAny_bind (wpAny_rule (wpAny_pure ⟨_, rfl, wpAny_pure h⟩))
end
section
variable {X : Cx}
/-- t[lo:hi], a part or all of a tuple -/
def rSlA (K : PySem.W.Frag) : V → Option Int → Option Int → Hp → VK → Prop := fun x lo hi H Q => ∃ a xs, x = .ref a ∧ SqT K H a xs ∧ ∀ p H', Same H H' → SqT K H' p (cutV xs lo hi) → Q (.ref p) H'
theorem sl_any : SlR X (rSlA X.K) := by
  intro pins s σ H x v vl vu lo hi sl Q I rx hs pl pu h
  obtain ⟨a, xs, rfl, hx, q⟩ := h
  by_cases hw : sIx xs.length 0 lo = 0 ∧ sIx xs.length xs.length hi = xs.length
  · cases rx
    obtain ⟨its, r, ht, hz⟩ := I.tuple hx
    have hlen : its.toArray.size = xs.length := by rw [List.size_toArray]; exact r.length.symm
    refine ⟨"tuple", _, PyProof.Rows.slot_tuple_getitem.lookup, ht.typeIs, ?_⟩
    refine tup_all ht hs pl pu (by rw [hlen]; exact hw.1) (by rw [hlen]; exact hw.2) ⟨.ref a, H, I, rfl, q a H (Same.refl H) ?_⟩
    have e : cutV xs lo hi = xs := by
      unfold cutV
      rw [hw.1, hw.2]
      simp
    rw [e]
    exact hx
  · exact sl_tup pins s σ H (.ref a) v vl vu lo hi sl Q I rx hs pl pu ⟨a, xs, rfl, hx, hw, fun p hp => q p _ (same_new hp) (SqT.of upd_same)⟩
/-- x is b, x is not b: b True or False -/
def rIsB (neg : Bool) : R2 := fun x y H Q => ∃ b c, y = .bl b ∧ x = .bl c ∧ Q (.bl (if neg then !decide (c = b) else decide (c = b))) H
theorem op_isB : OpR X (compareOp .Is) (rIsB false) := by
  intro pins s σ H x y v u Q I rx ry h
  obtain ⟨b, c, rfl, rfl, q⟩ := h
  cases rx
  cases ry
  have e : (Value.bool c == Value.bool b) = decide (c = b) := by cases b <;> cases c <;> rfl
  exact wpAny_is_plain rfl ⟨.bl (decide (c = b)), H, I, by rw [e]; rfl, q⟩
theorem op_isNotB : OpR X (compareOp .IsNot) (rIsB true) := by
  intro pins s σ H x y v u Q I rx ry h
  obtain ⟨b, c, rfl, rfl, q⟩ := h
  cases rx
  cases ry
  have e : (Value.bool c == Value.bool b) = decide (c = b) := by cases b <;> cases c <;> rfl
  show wpAny _ _ ((isSame (Value.bool c) (Value.bool b)) >>= fun z => pure (Value.bool (!z))) _ _ s
  exact wpAny_bind (wpAny_isSame_plain rfl (wpAny_pure ⟨.bl (!decide (c = b)), H, I, by rw [e]; rfl, q⟩))
end
section
variable {K : PySem.W.Frag} {σ : L2.St} {H1 : Hp} {D a b : Addr} {vs : List Nat} {j1 j2 : Nat} {xs ys : List V} {te : TE} {Qd : Hp → Prop}
theorem lc_zipS (bs : List Bool) (hl : xs.length = ys.length) (hlen : bs.length = xs.length) (hD : H1 D = Option.none) (hx : SqT K H1 a xs) (hy : SqT K H1 b ys) (hw : ∀ x y, wipe (((wipe σ vs).set j1 (some x)).set j2 (some y)) vs = wipe σ vs) (hz : xs.length ≤ 1000)
    (he : ∀ (i : Nat) (x y : V) (bb : Bool) (H' : Hp) (Q' : VK), xs[i]? = some x → ys[i]? = some y → bs[i]? = some bb → Same H1 H' → (∀ H'', Same H' H'' → Q' (.bl bb) H'') → te (((wipe σ vs).set j1 (some x)).set j2 (some y)) H' Q')
    (hd : ∀ H', Same H1 H' → H' D = some (.lst (bs.map V.bl)) → Qd H') :
    ∃ W : Nat → Nat → Hp → Prop, (∃ m, W 0 m (upd H1 D (.lst []))) ∧ ∀ i m H, W i m H →
      ((RZ.ItzT K a b).stop i H ∧ Qd H) ∨ ((RZ.ItzT K a b).go i H ∧ ∃ Nx : Hp → Prop, (∀ H', Nx H' → ∃ m', m' < m ∧ W (i + 1) m' H') ∧ ∀ x H', (RZ.ItzT K a b).yld i H x H' → gTup K 2 (gCons (gName j1) (gCons (gName j2) gNil)) x (wipe σ vs) H' fun σ2 H2 => wipe σ2 vs = wipe σ vs ∧ tYes σ2 H2 fun b H3 =>
        if b = true then te σ2 H3 fun y H4 => ∃ acc, H4 D = some (.lst acc) ∧ acc.length < sizeLine ∧ Nx (upd H4 D (.lst (acc ++ [y]))) else Nx H3) := by
  refine ⟨fun i m H => m = xs.length - i ∧ i ≤ xs.length ∧ Same H1 H ∧ H D = some (.lst ((bs.map V.bl).take i)), ⟨xs.length, by simp, Nat.zero_le _, same_new hD, upd_same⟩, ?_⟩
  rintro i m H ⟨rfl, hi, sm, hDl⟩
  have hxa := SqT_same sm hx
  have hyb := SqT_same sm hy
  by_cases hlt : i < xs.length
  · have hix : xs[i]? = some xs[i] := List.getElem?_eq_getElem hlt
    have hiy : ys[i]? = some (ys[i]'(by omega)) := List.getElem?_eq_getElem (by omega)
    have hib : bs[i]? = some (bs[i]'(by omega)) := List.getElem?_eq_getElem (by omega)
    refine .inr ⟨⟨xs, ys, _, _, hxa, hyb, hix, hiy⟩, fun H' => i + 1 ≤ xs.length ∧ Same H1 H' ∧ H' D = some (.lst ((bs.map V.bl).take (i + 1))), fun H' p' => ⟨xs.length - (i + 1), by omega, rfl, p'⟩, ?_⟩
    rintro x H' ⟨T, x0, y0, rfl, hT, rfl, f1, f2⟩
    have e1 := f1 _ hxa
    have e2 := f2 _ hyb
    have s2 := same_new (o := .tup [x0, y0]) hT
    refine ⟨T, _, rfl, SqT.of upd_same, rfl, _, _, rfl, _, _, rfl, rfl, hw _ _, yesIte ?_⟩
    refine he i x0 y0 _ _ _ e1 e2 hib (sm.trans s2) fun H'' s3 => ⟨_, s3 _ _ (s2 _ _ hDl), ?_, by omega, ?_, ?_⟩
    · rw [List.length_take]; exact small1000 (by omega)
    · intro y o hy'
      rw [upd_ne (ne_of_none hy' hD)]
      exact s3 _ _ (s2 _ _ (sm _ _ hy'))
    · rw [upd_same, List.take_add_one, List.getElem?_map, hib]; rfl
  · have e : i = xs.length := by omega
    refine .inl ⟨⟨xs, ys, hxa, hyb, .inl (by omega)⟩, hd H sm ?_⟩
    rw [hDl, e, List.take_of_length_le (by rw [List.length_map]; omega)]
end
theorem dpAll_len {K : PySem.W.Frag} {H : Hp} : ∀ {xs : List V} {ds : List PyData}, DpAll K H xs ds → xs.length = ds.length
  | _, _, .nil => rfl
  | _, _, .cons _ b => by rw [List.length_cons, List.length_cons, dpAll_len b]
theorem dpAll_cons {K : PySem.W.Frag} {H : Hp} {xs : List V} {d : PyData} {ds : List PyData} (h : DpAll K H xs (d :: ds)) : ∃ x xs', xs = x :: xs' ∧ Dp K H x d ∧ DpAll K H xs' ds := by
  cases h with
  | cons a b => exact ⟨_, _, rfl, a, b⟩
theorem dpAll_nil {K : PySem.W.Frag} {H : Hp} {xs : List V} (h : DpAll K H xs []) : xs = [] := by cases h; rfl
theorem dp_tup {K : PySem.W.Frag} {H : Hp} {x : V} {d : PyData} (h : Dp K H x d) (t : tupB d = true) : ∃ a xs ds, x = .ref a ∧ d = .tuple ds ∧ SqT K H a xs ∧ DpAll K H xs ds := by
  cases h <;> first | exact ⟨_, _, _, rfl, rfl, ‹_›, ‹_›⟩ | cases t
theorem dpAll_get {K : PySem.W.Frag} {H : Hp} : ∀ {xs : List V} {ds : List PyData} {i : Nat} {x : V}, DpAll K H xs ds → xs[i]? = some x → ∃ d, ds[i]? = some d ∧ Dp K H x d
  | _, _, i, x, .nil, h => by simp at h
  | _, _, 0, x, .cons a b, h => ⟨_, rfl, by simp at h; subst h; exact a⟩
  | _, _, i + 1, x, .cons a b, h => by
    obtain ⟨d, e1, e2⟩ := dpAll_get b (i := i) (by simpa using h)
    exact ⟨d, by simpa using e1, e2⟩
theorem cut_take {xs : List V} {n : Nat} (h : n ≤ xs.length) : cutV xs Option.none (some (n : Int)) = xs.take n := by
  unfold cutV
  rw [show HT.sIx xs.length 0 none = 0 from HT.sIx_none _ _, HT.sIx_nat, Nat.min_eq_left h]
  simp
theorem cut_drop {xs : List V} {n : Nat} (h : n ≤ xs.length) : cutV xs (some (n : Int)) Option.none = xs.drop n := by
  unfold cutV
  rw [show HT.sIx xs.length xs.length none = xs.length from HT.sIx_none _ _, HT.sIx_nat, Nat.min_eq_left h]
  exact List.take_of_length_le (by rw [List.length_drop]; omega)
theorem shaped_of {d : PyData} (h : d.canLay0 = true) (h' : d.depth ≤ 64) : SeqAt.shaped d = true := by
  show (d.canLay0 && decide (d.depth ≤ 64)) = true
  rw [Bool.and_eq_true]; exact ⟨h, decide_eq_true h'⟩
abbrev cntL : List Int := [1, 2, 1, 3, 2, 1, 2, 1, 2, 2, 1, 3]
end Sg

set_option Elab.async false
set_option linter.all false
set_option maxRecDepth 100000
set_option maxHeartbeats 4000000
namespace Sg
open PySem PySem.Spec PyProof.Rows L2
/-- what is built-in of the names that the law's helpers use -/
structure LB (mg : Str → Option Value) : Prop where
  len : mg "len" = none
  abs : mg "abs" = none
  int : mg "int" = none
  list : mg "list" = none
  tuple : mg "tuple" = none
  sorted : mg "sorted" = none
  range : mg "range" = none
def Tape (K : PySem.W.Frag) (H : Hp) (p q : Addr) (ns : List Int) (i : Nat) (rest seed : Int) : Prop :=
  H p = some (.lst [.ref q, .int (i : Int), .int rest, .int seed]) ∧ SqL K H q (ns.map V.int) ∧ q ≠ p ∧ 0 ≤ rest ∧ 0 ≤ seed ∧ seed < 2147483647
def TapeAt (K : PySem.W.Frag) (H : Hp) (p : Addr) : Prop := ∃ q ns i rest seed, Tape K H p q ns i rest seed
theorem sqL_off {K : PySem.W.Frag} {H H' : Hp} {xs : List Addr} {a : Addr} {l : List V} (o : Off xs H H') (h : SqL K H a l) (n : a ∉ xs) : SqL K H' a l := by
  rcases h with (h | ⟨u, h⟩) | h
  · exact .inl (.inl (o _ _ h n))
  · exact .inl (.inr ⟨u, o _ _ h n⟩)
  · exact .inr h
theorem TapeAt.same {K : PySem.W.Frag} {H H' : Hp} {p : Addr} (h : TapeAt K H p) (s : Same H H') : TapeAt K H' p := by
  obtain ⟨q, ns, i, rest, seed, h1, h2, h3⟩ := h
  exact ⟨q, ns, i, rest, seed, s _ _ h1, s.seq h2, h3⟩
/-- other things than the tape's lists were changed -/
theorem TapeAt.upd {K : PySem.W.Frag} {H : Hp} {p d : Addr} {o u : HO} (h : TapeAt K H p) (hd : H d = some o) (ho : ∀ xs, o ≠ .lst xs) (ho2 : ∀ ob v, o ≠ .frz ob v) : TapeAt K (upd H d u) p := by
  obtain ⟨q, ns, i, rest, seed, h1, h2, h3⟩ := h
  refine ⟨q, ns, i, rest, seed, ?_, ?_, h3⟩
  · rw [upd_ne (ne_of h1 hd (fun z => ho _ z.symm))]; exact h1
  · rcases h2 with (h | ⟨v, h⟩) | h
    · exact .inl (.inl (by rw [upd_ne (ne_of h hd (fun z => ho _ z.symm))]; exact h))
    · exact .inl (.inr ⟨v, by rw [upd_ne (ne_of h hd (fun z => ho2 _ _ z.symm))]; exact h⟩)
    · exact .inr h
theorem TapeAt.lst {K : PySem.W.Frag} {H : Hp} {p : Addr} (h : TapeAt K H p) : ∃ l, H p = some (.lst l) := by
  obtain ⟨q, ns, i, rest, seed, h1, _⟩ := h
  exact ⟨_, h1⟩
theorem TapeAt.tk {K : PySem.W.Frag} {H H' : Hp} {p : Addr} (h : TapeAt K H p) (o : Off [p] H H') : TK H H' := TK.off o fun x hx => by
  cases List.mem_singleton.mp hx
  exact .inl h.lst
def spNext (K : PySem.W.Frag) : Sp := fun vs H Q _ => ∃ (p : Addr) (many : Int), vs = [.ref p, .int many] ∧ TapeAt K H p ∧ 0 < many ∧ many < 1073741824 ∧
  ∀ r H', 0 ≤ r → r < many → Off [p] H H' → TapeAt K H' p → Q (.int r) H'
section
variable {P : Program} {wrl : World} {K : PySem.W.Frag} {mg : Str → Option Value} {base : Heap} {f : Addr} {fd : FuncData}
theorem scNext : FnScope ["tape", "many", "rest", "cell"] ["tape", "many"] (defScope sNext) := ⟨rfl, rfl, rfl, by decide +kernel, rfl, by decide +kernel, by decide +kernel⟩
theorem ok_next (F : Fun K "_law_next" "_law_next" sNext f fd) (B : LB mg) : FnOk P wrl K mg base CX0 1 f fd ["tape", "many"] (spNext K) := by
  refine F.ok scNext (fun vs H Q E h => ?_) (fun cdv A outer s H vs Q E hr h => ?_)
  · obtain ⟨p, many, rfl, _⟩ := h
    rfl
  · obtain ⟨p, many, rfl, ⟨q, ns, i, rest, seed, h1, h2, hne, hre, hs0, hs1⟩, hm0, hm1, k⟩ := h
    refine ⟨_, pss_cons (ps_set (i := 2) scNext.nd rfl (Or.inl rfl) (pe_ix ix_list (pv 0) pe_int (fun _ _ => rfl)))
      (Evl.pss_cut (ps_if (pt_cmpR op_eq (pv 2) pe_int (nomark _))
          (pss_cons (ps_set (i := 3) scNext.nd rfl (Or.inl rfl) pe_int)
          (Evl.pss_cut (ps_if (pt_cmpR op_lt (pe_ix ix_list (pv 0) pe_int (fun _ _ => rfl)) (pe_callB call_len_seq (by rfl) B.len PySem.boot_len (pa_cons (pe_ix ix_list (pv 0) pe_int (fun _ _ => rfl)) pa_nil)) (nomark _))
              (pss_cons (ps_set (i := 3) scNext.nd rfl (Or.inl rfl) (pe_callB call_abs (by rfl) B.abs (by decide +kernel) (pa_cons (pe_callTy call_int1 (by rfl) B.int (by decide +kernel) (pa_cons (pe_ix ix_list (pe_ix ix_list (pv 0) pe_int (fun _ _ => rfl)) (pe_ix ix_list (pv 0) pe_int (fun _ _ => rfl)) (fun _ _ => rfl)) pa_nil)) pa_nil)))
              (pss_one (ps_asg (pe_op op_add (pe_ix ix_list (pv 0) pe_int (fun _ _ => rfl)) pe_int) (pg_sub (pv 0) pe_int set_list)))) pss_nil)
          (pss_cons (ps_set (i := 2) scNext.nd rfl (Or.inl rfl) (pv 3))
          (pss_one (ps_if (pt_cmpR op_lt (pv 3) (pe_op op_pow pe_int pe_int) (nomark _))
              (pss_cons (ps_asg (pe_op op_mod (pe_callTy call_int1 (by rfl) B.int (by decide +kernel) (pa_cons (pe_op op_add (pe_op op_add (pe_op op_mul (pe_ix ix_list (pv 0) pe_int (fun _ _ => rfl)) pe_int) (pe_op op_mul (pv 3) pe_int)) pe_int) pa_nil)) pe_int) (pg_sub (pv 0) pe_int set_list))
              (pss_one (ps_ret (pe_op op_mod (pe_op op_mod (pe_callTy call_int1 (by rfl) B.int (by decide +kernel) (pa_cons (pe_op op_mul (pe_op op_fdiv (pe_ix ix_list (pv 0) pe_int (fun _ _ => rfl)) pe_int) pe_int) pa_nil)) pe_int) (pv 1))))) pss_nil))))) pss_nil)
      (pss_cons (ps_asg (pe_op op_fdiv (pv 2) (pv 1)) (pg_sub (pv 0) pe_int set_list))
      (pss_one (ps_ret (pe_op op_mod (pe_callTy call_int1 (by rfl) B.int (by decide +kernel) (pa_cons (pv 2) pa_nil)) (pv 1)))))), ?_⟩
    refine ⟨_, rfl, p, _, _, _, rfl, rfl, SqL.of h1, atI_nat (j := 2) rfl, ?_⟩
    refine ⟨fun σ H' => ∃ (v3 : Option V) (i' : Nat) (r : Int), σ = [some (.ref p), some (.int many), some (.int r), v3] ∧ H' = upd H p (.lst [.ref q, .int (i' : Int), .int rest, .int seed]) ∧ 0 ≤ r, ?_, ?_⟩
    · refine ⟨_, rfl, rfl, _, rfl, ?_⟩
      refine ite2 (fun hc => ?_) (fun hc => ?_)
      · refine ⟨fun σ H' => ∃ (i' : Nat) (c : Int), σ = [some (.ref p), some (.int many), some (.int rest), some (.int c)] ∧ H' = upd H p (.lst [.ref q, .int (i' : Int), .int rest, .int seed]) ∧ 0 ≤ c, ?_, ?_⟩
        · refine ⟨_, rfl, p, _, _, _, rfl, rfl, SqL.of h1, atI_nat (j := 1) rfl, _, rfl, p, _, _, _, rfl, rfl, SqL.of h1, atI_nat (j := 0) rfl, q, _, rfl, .inl h2, _, _, rfl, rfl, _, rfl, ?_⟩
          refine ite2 (fun hl => ?_) (fun hl => ?_)
          · have hi : i < ns.length := by
              have := of_decide_eq_true hl
              rw [List.length_map] at this
              omega
            refine ⟨_, rfl, p, _, _, _, rfl, rfl, SqL.of h1, atI_nat (j := 0) rfl, _, rfl, p, _, _, _, rfl, rfl, SqL.of h1, atI_nat (j := 1) rfl, q, _, _, V.int ns[i], rfl, rfl, h2, atI_nat (get_map (List.getElem?_eq_getElem hi)), .inl ⟨_, rfl, _, rfl, ?_⟩⟩
            refine ⟨_, rfl, p, _, _, _, rfl, rfl, SqL.of h1, atI_nat (j := 1) rfl, _, _, rfl, rfl, _, rfl, p, _, _, 1, rfl, rfl, h1, rfl, ?_⟩
            exact ⟨i + 1, _, rfl, rfl, by split <;> omega⟩
          · refine ⟨i, 0, ?_, ?_, by decide⟩
            · rfl
            · funext b
              by_cases e : b = p
              · rw [e, upd_same, h1]
              · rw [upd_ne e]
        · rintro σ H' ⟨i', c, rfl, rfl, hc0⟩
          refine ⟨_, rfl, ?_⟩
          refine ⟨_, rfl, _, _, rfl, rfl, ⟨by decide, by decide, by decide⟩, _, _, rfl, rfl, _, rfl, ?_⟩
          refine ite2 (fun hl => ?_) (fun hl => ?_)
          · have hc1 : c < 10 ^ 18 := by
              have := of_decide_eq_true hl
              have e : (10 : Int) ^ (18 : Int).toNat = 10 ^ 18 := rfl
              omega
            refine ⟨_, rfl, p, _, _, _, rfl, rfl, SqL.of upd_same, atI_nat (j := 3) rfl, _, _, rfl, rfl, .inl ⟨by omega, by omega⟩, _, rfl, _, _, rfl, rfl, .inr ⟨by decide, by decide⟩, _, _, rfl, rfl, _, _, rfl, rfl, .inl ⟨_, rfl, ?_⟩⟩
            refine ⟨_, _, rfl, rfl, (by show (0 : Int) < 2147483647; decide), _, rfl, p, _, _, 3, rfl, rfl, upd_same, rfl, ?_⟩
            rw [upd_upd]
            refine ⟨_, rfl, p, _, _, _, rfl, rfl, SqL.of upd_same, atI_nat (j := 3) rfl, _, _, rfl, rfl, ⟨by decide, by decide⟩, _, _, rfl, rfl, .inr ⟨by decide, by decide⟩, .inl ⟨_, rfl, ?_⟩⟩
            refine ⟨_, _, rfl, rfl, (by show (0 : Int) < 2147483647; decide), _, rfl, _, _, rfl, rfl, hm0, ?_⟩
            refine k _ _ (Int.emod_nonneg _ (by omega)) (Int.emod_lt_of_pos _ hm0) (Off.upd (List.mem_singleton.mpr rfl)) ⟨q, ns, i', rest, _, upd_same, sqL_off (Off.upd (List.mem_singleton.mpr rfl)) h2 (by simp [hne]), hne, hre, Int.emod_nonneg _ (by decide), Int.emod_lt_of_pos _ (by decide)⟩
          · exact ⟨_, i', c, rfl, rfl, hc0⟩
      · refine ⟨none, i, rest, ?_, ?_, hre⟩
        · rfl
        · funext b
          by_cases e : b = p
          · rw [e, upd_same, h1]
          · rw [upd_ne e]
    · rintro σ H' ⟨v3, i', r, rfl, rfl, hr0⟩
      refine ⟨_, rfl, _, rfl, _, _, rfl, rfl, ⟨hm0, hm1⟩, _, rfl, p, _, _, 2, rfl, rfl, upd_same, rfl, ?_⟩
      rw [upd_upd]
      refine ⟨_, rfl, .inl ⟨_, rfl, _, rfl, _, _, rfl, rfl, hm0, ?_⟩⟩
      refine k _ _ (Int.emod_nonneg _ (by omega)) (Int.emod_lt_of_pos _ hm0) (Off.upd (List.mem_singleton.mpr rfl)) ⟨q, ns, i', _, seed, upd_same, sqL_off (Off.upd (List.mem_singleton.mpr rfl)) h2 (by simp [hne]), hne, Int.ediv_nonneg hr0 (by omega), hs0, hs1⟩
end
end Sg

set_option Elab.async false
set_option linter.all false
set_option maxRecDepth 100000
set_option maxHeartbeats 4000000
namespace Sg
open PySem PySem.Spec PyProof.Rows L2
def partsT : List (Str × List Str) := [("make", ["namespace", "size"]), ("remove", ["namespace"]), ("write", ["namespace", "place", "value"]), ("trim", ["namespace", "place"]), ("read", ["namespace", "place"]), ("snap", ["namespace"]), ("view", ["namespace", "snapshot", "place"]),
  ("drop", ["namespace", "snapshot"]), ("register", ["namespace"]), ("leave", ["namespace"]), ("reserve", ["namespace", "way"]), ("release", ["namespace"]), ("preempt", ["namespace", "victim"]), ("flush", [])]
def partD (n : Str) (d : PyData) : Bool :=
  if n = "namespace" then betwD 1 8 d else if n = "size" then betwD 1 64 d else if n = "place" then betwD 0 63 d else if n = "snapshot" then atLeastD 1 d else if n = "victim" then betwD 0 3 d else if n = "way" then strInD ["write", "alone"] d else wholeD d
def partsD (ns : List Str) (ds : List PyData) : Bool := (ns.zip ds).all fun p => partD p.1 p.2
def cmdD : PyData → Bool
  | .tuple (.str k :: fs) => (match partsT.lookup k with
    | some ns => decide (fs.length = ns.length) && partsD ns fs
    | none => false)
  | _ => false
/-- the first part, if it is a text, is a command's name or empty -/
def firstOk : PyData → Prop
  | .tuple (.str k :: _) => k = "" ∨ ∃ ns, partsT.lookup k = some ns
  | _ => True
structure PX (K : PySem.W.Frag) (w : World) (mg : Str → Option Value) (aP : Addr) : Prop where
  gP : mg "PARTS" = some (.ref aP)
  kd : ∃ es n, KDict K w aP es n
  fT : ∀ p ∈ partsT, ∃ a u, KDct K w aP p.1 (.ref a) ∧ PySem.W.nsIn K aP p.1 = some (some u) ∧ ∀ H, SqT K H a (p.2.map V.str)
  e0 : PySem.W.nsIn K aP "" = some none
  gHo : ∃ t, mg "HOSTS" = some (.int 4 t)
  gNs : ∃ t, mg "NAMESPACES" = some (.int 8 t)
  gPl : ∃ t, mg "PLACES" = some (.int 64 t)
def spPart (K : PySem.W.Frag) : Sp := fun vs H Q _ => ∃ n x d, vs = [.str n, x] ∧ Dp K H x d ∧ ∀ H', Same H H' → Q (.bl (partD n d)) H'
def spIsCmd (K : PySem.W.Frag) : Sp := fun vs H Q _ => ∃ x d, vs = [x] ∧ Dp K H x d ∧ firstOk d ∧ ∀ H', Same H H' → Q (.bl (cmdD d)) H'
def spNsOf (K : PySem.W.Frag) : Sp := fun vs H Q _ => ∃ a k xs, vs = [.ref a] ∧ SqT K H a (.str k :: xs) ∧ (k = "flush" → Q .non H) ∧ (¬ k = "flush" → ∃ y, xs[0]? = some y ∧ Q y H)
theorem cmd_eq {k : Str} {ns : List Str} {fs : List PyData} (h : partsT.lookup k = some ns) : cmdD (.tuple (.str k :: fs)) = (decide (fs.length = ns.length) && partsD ns fs) := by
  show (match partsT.lookup k with
    | some ns => decide (fs.length = ns.length) && partsD ns fs
    | none => false) = _
  rw [h]
theorem cmd_empty {fs : List PyData} : cmdD (.tuple (.str "" :: fs)) = false := by
  have : partsT.lookup ("" : Str) = none := by decide +kernel
  show (match partsT.lookup ("" : Str) with
    | some ns => decide (fs.length = ns.length) && partsD ns fs
    | none => false) = false
  rw [this]
theorem zip_ps {ns : List Str} {fs : List PyData} : ((ns.zip fs).map fun p => partD p.1 p.2).all id = partsD ns fs := by
  unfold partsD
  rw [List.all_map]; rfl
theorem cut_one {x1 : V} {r : List V} : cutV (x1 :: r) (some 1) Option.none = r := (cut_drop (n := 1) (by simp)).trans rfl
section
variable {P : Program} {wrl : World} {K : PySem.W.Frag} {mg : Str → Option Value} {base : Heap} {f fW fA fB fP aP : Addr} {fd fdW fdA fdB fdP : FuncData}
theorem scIsPart : FnScope ["name", "value"] ["name", "value"] (defScope sIsPart) := ⟨rfl, rfl, rfl, by decide +kernel, rfl, by decide +kernel, by decide +kernel⟩
theorem ok_isPart (F : Fun K "_is_part" "_is_part" sIsPart f fd) (B : Bds mg fW) (R : PX K wrl mg aP) (GW : Def P wrl K mg base CX0 "is_whole" 1 ["value"] (spWhole K) fW fdW)
    (GA : Def P wrl K mg base CX0 "is_at_least" 2 ["value", "low"] (spAtLeast K) fA fdA) (GB : Def P wrl K mg base CX0 "is_between" 2 ["value", "low", "high"] (spBetween K) fB fdB) :
    FnOk P wrl K mg base CX0 3 f fd ["name", "value"] (spPart K) := by
  obtain ⟨t1, hHo⟩ := R.gHo
  obtain ⟨t2, hNs⟩ := R.gNs
  obtain ⟨t3, hPl⟩ := R.gPl
  refine F.ok scIsPart (fun vs H Q E h => ?_) (fun cdv A outer s H vs Q E hr h => ?_)
  · obtain ⟨n, x, d, rfl, _⟩ := h
    rfl
  · obtain ⟨n, x, d, rfl, hd, q⟩ := h
    have hr1 : Room 1 _ := hr.mono (by decide)
    obtain ⟨t, ty, _, _, k3, _⟩ := dp_ty hd
    refine ⟨_, (pss_cons (ps_if (pt_cmpR op_eq (pv 0) pe_str (nomark _))
      (pss_one (ps_ret (pe_call GB.ok hr (by rfl) GB.mg GB.kp GB.bd .nil pass0 (pa_cons (pv 1) (pa_cons pe_int (pa_cons (pe_glob (v := .int 8) (by rfl) hNs ⟨_, rfl⟩) pa_nil)))))) pss_nil)
      (pss_cons (ps_if (pt_cmpR op_eq (pv 0) pe_str (nomark _))
      (pss_one (ps_ret (pe_call GB.ok hr (by rfl) GB.mg GB.kp GB.bd .nil pass0 (pa_cons (pv 1) (pa_cons pe_int (pa_cons (pe_glob (v := .int 64) (by rfl) hPl ⟨_, rfl⟩) pa_nil)))))) pss_nil)
      (pss_cons (ps_if (pt_cmpR op_eq (pv 0) pe_str (nomark _))
      (pss_one (ps_ret (pe_call GB.ok hr (by rfl) GB.mg GB.kp GB.bd .nil pass0 (pa_cons (pv 1) (pa_cons pe_int (pa_cons (pe_op op_sub (pe_glob (v := .int 64) (by rfl) hPl ⟨_, rfl⟩) pe_int) pa_nil)))))) pss_nil)
      (pss_cons (ps_if (pt_cmpR op_eq (pv 0) pe_str (nomark _))
      (pss_one (ps_ret (pe_call GA.ok hr (by rfl) GA.mg GA.kp GA.bd .nil pass0 (pa_cons (pv 1) (pa_cons pe_int pa_nil))))) pss_nil)
      (pss_cons (ps_if (pt_cmpR op_eq (pv 0) pe_str (nomark _))
      (pss_one (ps_ret (pe_call GB.ok hr (by rfl) GB.mg GB.kp GB.bd .nil pass0 (pa_cons (pv 1) (pa_cons pe_int (pa_cons (pe_op op_sub (pe_glob (v := .int 4) (by rfl) hHo ⟨_, rfl⟩) pe_int) pa_nil)))))) pss_nil)
      (pss_cons (ps_if (pt_cmpR op_eq (pv 0) pe_str (nomark _))
      (pss_one (ps_ret (pe_and (pe_callB call_isi (by rfl) B.isi boot_isi (pa_cons (pv 1) (pa_cons (pe_bltn (v := .ty "str") (by rfl) B.str boot_str rfl) pa_nil))) (pe_one (pe_cmpR op_in_seq (pv 1) (pe_tup (pa_cons pe_str (pa_cons pe_str pa_nil))) (by rfl)))))) pss_nil)
      (pss_one (ps_ret (pe_call GW.ok hr1 (by rfl) GW.mg GW.kp GW.bd .nil pass0 (pa_cons (pv 1) pa_nil)))))))))), ?_⟩
    have q0 := q H (Same.refl H)
    unfold partD at q q0
    refine ⟨_, rfl, rfl, _, rfl, ?_⟩
    by_cases h1 : n = "namespace"
    · rw [if_pos h1] at q0; subst h1; rw [str_eqT]
      exact iteT ⟨_, rfl, x, d, 1, 8, rfl, hd, q0⟩
    rw [if_neg h1] at q q0; rw [str_eqF h1]
    refine iteF ⟨_, rfl, rfl, _, rfl, ?_⟩
    by_cases h2 : n = "size"
    · rw [if_pos h2] at q0; subst h2; rw [str_eqT]
      exact iteT ⟨_, rfl, x, d, 1, 64, rfl, hd, q0⟩
    rw [if_neg h2] at q q0; rw [str_eqF h2]
    refine iteF ⟨_, rfl, rfl, _, rfl, ?_⟩
    by_cases h3 : n = "place"
    · rw [if_pos h3] at q0; subst h3; rw [str_eqT]
      exact iteT ⟨_, rfl, _, _, rfl, rfl, x, d, 0, 63, rfl, hd, q0⟩
    rw [if_neg h3] at q q0; rw [str_eqF h3]
    refine iteF ⟨_, rfl, rfl, _, rfl, ?_⟩
    by_cases h4 : n = "snapshot"
    · rw [if_pos h4] at q0; subst h4; rw [str_eqT]
      exact iteT ⟨_, rfl, x, d, 1, rfl, hd, q0⟩
    rw [if_neg h4] at q q0; rw [str_eqF h4]
    refine iteF ⟨_, rfl, rfl, _, rfl, ?_⟩
    by_cases h5 : n = "victim"
    · rw [if_pos h5] at q0; subst h5; rw [str_eqT]
      exact iteT ⟨_, rfl, _, _, rfl, rfl, x, d, 0, 3, rfl, hd, q0⟩
    rw [if_neg h5] at q q0; rw [str_eqF h5]
    refine iteF ⟨_, rfl, rfl, _, rfl, ?_⟩
    by_cases h6 : n = "way"
    · rw [if_pos h6] at q q0; subst h6; rw [str_eqT]
      refine iteT ⟨_, rfl, x, _, t, _, _, rfl, .ty "str", ty, k3, _, rfl, ?_⟩
      cases hd with
      | str z =>
        refine iteT ⟨_, rfl, by show 2 ≤ sizeLine; decide, fun l hl => ?_⟩
        refine ⟨l, _, rfl, .inr (SqT.of upd_same), rfl, rfl, ?_⟩
        have e : inV (.str z) ((["write", "alone"] : List Str).map V.str) = strInD ["write", "alone"] (.str z) := inV_str
        have q1 := q _ (same_new (o := .tup [.str "write", .str "alone"]) hl)
        rw [← e] at q1
        exact q1
      | non => exact iteF q0
      | bl b => exact iteF q0
      | int i => exact iteF q0
      | lst h1 h2 => exact iteF q0
      | tup h1 h2 => exact iteF q0
    rw [if_neg h6] at q q0; rw [str_eqF h6]
    exact iteF ⟨_, rfl, x, d, rfl, hd, q0⟩
theorem scNsOf : FnScope ["command"] ["command"] (defScope sNsOf) := ⟨rfl, rfl, rfl, by decide +kernel, rfl, by decide +kernel, by decide +kernel⟩
theorem ok_nsOf (F : Fun K "namespace_of" "namespace_of" sNsOf f fd) : FnOk P wrl K mg base CX0 1 f fd ["command"] (spNsOf K) := by
  refine F.ok scNsOf (fun vs H Q E h => ?_) (fun cdv A outer s H vs Q E hr h => ?_)
  · obtain ⟨a, k, xs, rfl, _⟩ := h
    rfl
  · obtain ⟨a, k, xs, rfl, hs, q1, q2⟩ := h
    refine ⟨_, (pss_one (ps_ret (pe_ifExp (pt_cmpR op_eq (pe_ix ix_tup (pv 0) pe_int (fun _ _ => rfl)) pe_str (nomark _)) pe_non (pe_ix ix_tup (pv 0) pe_int (fun _ _ => rfl))))), ?_⟩
    refine ⟨_, rfl, a, _, _, _, rfl, rfl, hs, atI_nat (j := 0) rfl, rfl, _, rfl, ?_⟩
    by_cases h : k = "flush"
    · subst h; rw [str_eqT]; exact iteT (q1 rfl)
    · rw [str_eqF h]
      obtain ⟨y, hy, q⟩ := q2 h
      exact iteF ⟨_, rfl, a, _, _, _, rfl, rfl, hs, atI_nat (j := 1) hy, q⟩
theorem scIsCmd : FnScope ["value", "names", "name", "part"] ["value"] (defScope sIsCmd) := ⟨rfl, rfl, rfl, by decide +kernel, rfl, by decide +kernel, by decide +kernel⟩
theorem ok_isCmd (F : Fun K "is_command" "is_command" sIsCmd f fd) (B : Bds mg fW) (R : PX K wrl mg aP) (hlen : mg "len" = none) (hall : mg "all" = none) (hzip : mg "zip" = none) (GP : Def P wrl K mg base CX0 "_is_part" 3 ["name", "value"] (spPart K) fP fdP) :
    FnOk P wrl K mg base CX0 4 f fd ["value"] (spIsCmd K) := by
  obtain ⟨es, nn, D⟩ := R.kd
  refine F.ok scIsCmd (fun vs H Q E h => ?_) (fun cdv A outer s H vs Q E hr h => ?_)
  · obtain ⟨x, d, rfl, _⟩ := h
    rfl
  · obtain ⟨x, d, rfl, hd, hf, q⟩ := h
    obtain ⟨t, ty, _, _, _, h4, _⟩ := dp_ty hd
    refine ⟨_, (pss_cons (ps_if (PW.pt (pw_or (pt_not (pt_val (pe_callB call_isi (by rfl) B.isi boot_isi (pa_cons (pv 0) (pa_cons (pe_bltn (v := .ty "tuple") (by rfl) B.tup boot_tuple rfl) pa_nil))))) (pw_or (pt_not (pt_truth (pv 0) (by intro _; rfl))) (pw_or (pt_not (pt_val (pe_callB call_isi (by rfl) B.isi boot_isi (pa_cons (pe_ix ix_tup (pv 0) pe_int (fun _ _ => rfl)) (pa_cons (pe_bltn (v := .ty "str") (by rfl) B.str boot_str rfl) pa_nil))))) (pw_or1 (pt_cmpR (op_notIn_kd D) (pe_ix ix_tup (pv 0) pe_int (fun _ _ => rfl)) (pe_glob (v := .ref aP) (by rfl) R.gP rfl) (by rfl)))))))
      (pss_one (ps_ret pe_bl)) pss_nil)
      (pss_cons (ps_set (i := 1) scIsCmd.nd rfl (Or.inl rfl) (pe_ix ix_kdict (pe_glob (v := .ref aP) (by rfl) R.gP rfl) (pe_ix ix_tup (pv 0) pe_int (fun _ _ => rfl)) (fun _ _ => rfl)))
      (pss_cons (ps_if (pt_cmpR op_ne (pe_callB call_len_seq (by rfl) hlen PySem.boot_len (pa_cons (pv 0) pa_nil)) (pe_op op_add pe_int (pe_callB call_len_seq (by rfl) hlen PySem.boot_len (pa_cons (pv 1) pa_nil))) (nomark _))
      (pss_one (ps_ret pe_bl)) pss_nil)
      (pss_one (ps_ret (pe_callB (cr_all rfl) (by rfl) hall (by decide +kernel) (pa_cons (pe_lc (own := [("name", 2), ("part", 3)]) (g := gTup K 2 (gCons (gName 2) (gCons (gName 3) gNil))) (tt := tYes) (te := tCall (spPart K) [] E0 (tCons (tVar 2) (tCons (tVar 3) tNil))) (by rfl) scIsCmd.nd (RZ.pi_zipA (by rfl) hzip (pa_cons (pv 1) (pa_cons (pe_slice sl_any (pv 0) (po_some pe_int) po_none) pa_nil))) (blkOk_by (own := [("name", 2), ("part", 3)]) (N := ["value", "names", "name", "part"]) (sc := defScope sIsCmd) (by decide +kernel)) (fun _ _ _ _ _ => pg_tup (by rfl) (pgs_cons (pg_name (i := 2) scIsCmd.nd rfl (Or.inl rfl)) (pgs_cons (pg_name (i := 3) scIsCmd.nd rfl (Or.inl rfl)) L2.pgs_nil))) (fun _ _ _ _ _ => pts_nil) (fun _ _ _ _ _ => by exact (pe_call GP.ok hr (by rfl) GP.mg GP.kp GP.bd .nil pass0 (pa_cons (pv 2) (pa_cons (pv 3) pa_nil))))) pa_nil))))))), ?_⟩
    have q0 := q H (Same.refl H)
    refine ⟨_, rfl, x, _, t, _, _, rfl, .ty "tuple", ty, h4, _, rfl, ?_⟩
    cases ht : tupB d with
    | false =>
      have e : cmdD d = false := by cases d <;> first | rfl | cases ht
      rw [e] at q0
      exact iteT (iteT q0)
    | true =>
      refine iteF ?_
      obtain ⟨a, xs, ds, rfl, rfl, hs, ha⟩ := dp_tup hd ht
      have hl := dpAll_len ha
      refine ⟨_, rfl, !xs.isEmpty, .inr (.inl ⟨xs, hs, rfl⟩), ?_⟩
      cases ds with
      | nil =>
        have e : xs = [] := List.length_eq_zero_iff.mp hl
        subst e
        exact iteT (iteT q0)
      | cons d1 fs =>
        obtain ⟨x1, ys, rfl, a1, a2⟩ := dpAll_cons ha
        refine iteF ?_
        obtain ⟨t1, ty1, _, _, k3, _⟩ := dp_ty a1
        refine ⟨_, rfl, a, _, _, _, rfl, rfl, hs, atI_nat (j := 0) rfl, x1, _, t1, _, _, rfl, .ty "str", ty1, k3, _, rfl, ?_⟩
        cases hk : strB d1 with
        | false =>
          have e : cmdD (.tuple (d1 :: fs)) = false := by cases d1 <;> first | rfl | cases hk
          rw [e] at q0
          exact iteT (iteT q0)
        | true =>
          obtain ⟨k, rfl, rfl⟩ : ∃ k, x1 = .str k ∧ d1 = .str k := by
            cases a1 <;> first | exact ⟨_, rfl, rfl⟩ | cases hk
          refine iteF ⟨_, rfl, a, _, _, _, rfl, rfl, hs, atI_nat (j := 0) rfl, ?_⟩
          have hf' : k = "" ∨ ∃ ns, partsT.lookup k = some ns := hf
          rcases hf' with rfl | ⟨ns, hlook⟩
          · rw [cmd_empty] at q0
            exact ⟨_, _, rfl, rfl, R.e0, _, rfl, iteT q0⟩
          · obtain ⟨a', u, ka, ku, sa⟩ := R.fT _ (PySem.mem_of_lookup hlook)
            refine ⟨_, _, rfl, rfl, ku, _, rfl, iteF ?_⟩
            refine ⟨_, rfl, a, _, _, _, rfl, rfl, hs, atI_nat (j := 0) rfl, aP, k, .ref a', rfl, rfl, ka, ?_⟩
            refine ⟨_, rfl, a, _, rfl, .inr hs, _, rfl, a', _, rfl, .inr (sa H), _, _, rfl, rfl, rfl, _, rfl, ?_⟩
            have hl2 := dpAll_len a2
            rw [cmd_eq hlook] at q0 q
            by_cases hfl : fs.length = ns.length
            · rw [decide_eq_true (show V.int (((V.str k :: ys).length : Nat) : Int) = V.int (1 + (((ns.map V.str).length : Nat) : Int)) by
                rw [List.length_map]; simp only [List.length_cons]; congr 1; omega)]
              rw [decide_eq_true hfl] at q
              refine iteF ?_
              refine ⟨_, rfl, _, rfl, 1, rfl, a, _, rfl, hs, fun p2 H2 s2 hp2 => ?_⟩
              rw [cut_one] at hp2
              refine ⟨a', p2, ns.map V.str, ys, rfl, .inr ⟨sa H2, hp2, fun D hD => ?_⟩⟩
              have hns : ns.length ≤ 1000 := by
                have : ∀ p ∈ partsT, p.2.length ≤ 1000 := by decide +kernel
                exact this _ (PySem.mem_of_lookup hlook)
              refine lc_zipS ((ns.zip fs).map fun p => partD p.1 p.2) (by rw [List.length_map]; show ns.length = ys.length; omega) (by rw [List.length_map, List.length_map, List.length_zip]; show min ns.length fs.length = ns.length; omega) hD (sa H2) hp2 (fun _ _ => rfl) (by rw [List.length_map]; exact hns) (fun i x y bb H' Q' hx hy hb s3 k3 => ?_) fun H3 s3 hDl => ?_
              · obtain ⟨n, hn, rfl⟩ := map_get hx
                have e6' := dpAll_same (s2.trans s3) _ _ a2
                obtain ⟨dd, hdd, hdp⟩ := dpAll_get e6' hy
                rw [List.getElem?_map, List.getElem?_zip_eq_some.mpr (by exact ⟨hn, hdd⟩ : ns[i]? = some (n, dd).1 ∧ fs[i]? = some (n, dd).2)] at hb
                have hb' : partD n dd = bb := by simpa using hb
                refine ⟨_, rfl, _, rfl, n, y, dd, rfl, hdp, fun H'' s4 => ?_⟩
                rw [hb']
                exact k3 H'' s4
              · refine ⟨D, _, rfl, SqL.of hDl, ?_⟩
                rw [zip_ps]
                exact q H3 (s2.trans s3)
            · rw [decide_eq_false (show ¬ V.int (((V.str k :: ys).length : Nat) : Int) = V.int (1 + (((ns.map V.str).length : Nat) : Int)) by
                intro z; injection z with z; rw [List.length_map] at z; simp only [List.length_cons] at z; omega)]
              rw [decide_eq_false hfl] at q0
              exact iteT q0
end
end Sg

set_option Elab.async false
set_option linter.all false
set_option maxRecDepth 100000
set_option maxHeartbeats 4000000
namespace Sg
open PySem PySem.Spec PyProof.Rows L2
def spNumber (K : PySem.W.Frag) : Sp := fun vs H Q _ => ∃ p lo hi, vs = [.ref p, .int lo, .int hi] ∧ TapeAt K H p ∧ lo ≤ hi ∧ hi - lo < 1000 ∧ ∀ v H', lo - 1 ≤ v → v ≤ hi + 1 → Off [p] H H' → TapeAt K H' p → Q (.int v) H'
/-- a part as it is drawn -/
def PF (x : V) : Prop := (∃ i : Int, x = .int i ∧ -(10 ^ 30) ≤ i ∧ i ≤ 10 ^ 30) ∨ ∃ s, x = .str s ∧ PyData.strOk s = true
def names12 : List Str := ["make", "remove", "write", "trim", "read", "snap", "view", "drop", "register", "leave", "reserve", "release"]
def names14 : List Str := ["make", "remove", "write", "trim", "read", "snap", "view", "drop", "register", "leave", "reserve", "release", "preempt", "flush"]
def PJ (K : PySem.W.Frag) (H0 : Hp) (p l : Addr) (name : Str) (n : Nat) (H : Hp) : Prop := ∃ v xs, TapeAt K H p ∧ H l = some (.lst (.str name :: .int v :: xs)) ∧ Off [p] H0 H ∧ (∀ x ∈ V.int v :: xs, PF x) ∧ xs.length ≤ n
def spParts (K : PySem.W.Frag) : Sp := fun vs H Q _ => ∃ p, vs = [.ref p] ∧ TapeAt K H p ∧ ∀ l name xs H', name ∈ names14 → H l = none → TapeAt K H' p → H' l = some (.lst (.str name :: xs)) → Off [p] H H' → (∀ x ∈ xs, PF x) → xs.length ≤ 9 → (∀ x, xs[0]? = some x → ∃ i, x = .int i) → Q (.ref l) H'
section
variable {P : Program} {wrl : World} {K : PySem.W.Frag} {mg : Str → Option Value} {base : Heap} {f fN fU : Addr} {fd fdN fdU : FuncData}
theorem scNumber : FnScope ["tape", "low", "high"] ["tape", "low", "high"] (defScope sNumber) := ⟨rfl, rfl, rfl, by decide +kernel, rfl, by decide +kernel, by decide +kernel⟩
theorem ok_number (F : Fun K "_law_number" "_law_number" sNumber f fd) (GN : Def P wrl K mg base CX0 "_law_next" 1 ["tape", "many"] (spNext K) fN fdN) : FnOk P wrl K mg base CX0 2 f fd ["tape", "low", "high"] (spNumber K) := by
  refine F.ok scNumber (fun vs H Q E h => ?_) (fun cdv A outer s H vs Q E hr h => ?_)
  · obtain ⟨p, lo, hi, rfl, _⟩ := h
    rfl
  · obtain ⟨p, lo, hi, rfl, tp, h1, h2, k⟩ := h
    refine ⟨_, (pss_one (ps_ret (pe_ix ix_list (pe_lst (pa_cons (pv 1) (pa_cons (pv 2) (pa_cons (pe_op op_sub (pv 1) pe_int) (pa_cons (pe_op op_add (pv 2) pe_int) (pa_cons (pe_op op_add (pv 1) (pe_call GN.ok hr (by rfl) GN.mg GN.kp GN.bd .nil pass0 (pa_cons (pv 0) (pa_cons (pe_op op_add (pe_op op_sub (pv 2) (pv 1)) pe_int) pa_nil)))) (pa_cons (pv 1) (pa_cons (pv 2) pa_nil)))))))) (pe_call GN.ok hr (by rfl) GN.mg GN.kp GN.bd .nil pass0 (pa_cons (pv 0) (pa_cons pe_int pa_nil))) (fun _ _ => rfl)))), ?_⟩
    refine ⟨_, rfl, _, rfl, _, rfl, _, _, rfl, rfl, _, rfl, _, _, rfl, rfl, _, rfl, _, rfl, _, rfl, _, rfl, _, _, rfl, rfl, _, _, rfl, rfl, p, _, rfl, tp, by omega, by omega, fun r H1 r0 r1 o1 t1 => ?_⟩
    refine ⟨_, _, rfl, rfl, _, rfl, _, rfl, by show 7 ≤ sizeLine; decide, fun l hl => ?_⟩
    generalize hH2 : upd H1 l _ = H2
    have s2 : Same H1 H2 := by rw [← hH2]; exact same_new hl
    have hl2 : H2 l = some (.lst [.int lo, .int hi, .int (lo - 1), .int (hi + 1), .int (lo + r), .int lo, .int hi]) := by rw [← hH2]; exact upd_same
    have t2 := t1.same s2
    have nlp : l ≠ p := fun e => by
      obtain ⟨x, hx⟩ := t1.lst
      rw [e, hx] at hl; cases hl
    refine ⟨_, rfl, p, 7, rfl, t2, by decide, by decide, fun q H3 q0 q1 o3 t3 => ?_⟩
    have hl3 := o3 _ _ hl2 (by simpa using nlp)
    have oo : Off [p] H H3 := (o1.trans (Off.of s2)).trans o3
    obtain ⟨j, rfl⟩ : ∃ j : Nat, q = (j : Int) := ⟨q.toNat, by omega⟩
    have hj : j < 7 := by omega
    match j, hj with
    | 0, _ => exact ⟨l, _, _, _, rfl, rfl, SqL.of hl3, atI_nat (j := 0) rfl, k _ _ (by omega) (by omega) oo t3⟩
    | 1, _ => exact ⟨l, _, _, _, rfl, rfl, SqL.of hl3, atI_nat (j := 1) rfl, k _ _ (by omega) (by omega) oo t3⟩
    | 2, _ => exact ⟨l, _, _, _, rfl, rfl, SqL.of hl3, atI_nat (j := 2) rfl, k _ _ (by omega) (by omega) oo t3⟩
    | 3, _ => exact ⟨l, _, _, _, rfl, rfl, SqL.of hl3, atI_nat (j := 3) rfl, k _ _ (by omega) (by omega) oo t3⟩
    | 4, _ => exact ⟨l, _, _, _, rfl, rfl, SqL.of hl3, atI_nat (j := 4) rfl, k _ _ (by omega) (by omega) oo t3⟩
    | 5, _ => exact ⟨l, _, _, _, rfl, rfl, SqL.of hl3, atI_nat (j := 5) rfl, k _ _ (by omega) (by omega) oo t3⟩
    | 6, _ => exact ⟨l, _, _, _, rfl, rfl, SqL.of hl3, atI_nat (j := 6) rfl, k _ _ (by omega) (by omega) oo t3⟩
    | n + 7, h => omega
theorem PJ.off {H0 H H' : Hp} {p l : Addr} {name : Str} {n : Nat} (h : PJ K H0 p l name n H) (ne : l ≠ p) (o : Off [p] H H') (t : TapeAt K H' p) : PJ K H0 p l name n H' := by
  obtain ⟨v, xs, h1, h2, h3, h4, h5⟩ := h
  exact ⟨v, xs, t, o _ _ h2 (by simpa using ne), h3.trans o, h4, h5⟩
theorem PJ.mono {H0 H : Hp} {p l : Addr} {name : Str} {n m : Nat} (h : PJ K H0 p l name n H) (hm : n ≤ m) : PJ K H0 p l name m H := by
  obtain ⟨v, xs, h1, h2, h3, h4, h5⟩ := h
  exact ⟨v, xs, h1, h2, h3, h4, by omega⟩
theorem tape_lstU {H : Hp} {p l : Addr} {xs : List V} {o : HO} (h : TapeAt K H p) {x0 : Str} (hl : H l = some (.lst (.str x0 :: xs))) (ne : l ≠ p) : TapeAt K (upd H l o) p := by
  obtain ⟨q, ns, i, rest, seed, h1, h2, h3, h4⟩ := h
  refine ⟨q, ns, i, rest, seed, by rw [upd_ne ne.symm]; exact h1, ?_, h3, h4⟩
  rcases h2 with (h | ⟨u, h⟩) | h
  · have : q ≠ l := fun e => by
      rw [e, hl] at h; injection h with h; injection h with h
      cases ns with
      | nil => cases h
      | cons n ns => rw [List.map_cons] at h; injection h with h _; cases h
    exact .inl (.inl (by rw [upd_ne this]; exact h))
  · have : q ≠ l := fun e => by rw [e, hl] at h; cases h
    exact .inl (.inr ⟨u, by rw [upd_ne this]; exact h⟩)
  · exact .inr h
theorem PJ.snoc {H0 H : Hp} {p l : Addr} {name : Str} {n : Nat} {x : V} (h : PJ K H0 p l name n H) (ne : l ≠ p) (hl0 : H0 l = none) (hx : PF x) (hn : n < 9) : ∃ xs, H l = some (.lst xs) ∧ xs.length < sizeLine ∧ PJ K H0 p l name (n + 1) (upd H l (.lst (xs ++ [x]))) := by
  obtain ⟨v, xs, h1, h2, h3, h4, h5⟩ := h
  refine ⟨_, h2, small1000 (by simp only [List.length_cons]; omega), v, xs ++ [x], tape_lstU h1 h2 ne, upd_same, ?_, ?_, ?_⟩
  · intro b o hb nb
    rw [upd_ne (fun e => by rw [e, hl0] at hb; cases hb)]
    exact h3 _ _ hb nb
  · intro y hy
    rw [← List.cons_append] at hy
    rcases List.mem_append.mp hy with hy | hy
    · exact h4 y hy
    · rw [List.mem_singleton.mp hy]; exact hx
  · rw [List.length_append]; simp only [List.length_cons, List.length_nil]; omega
theorem pf_int {i : Int} (h1 : -(10 ^ 30) ≤ i) (h2 : i ≤ 10 ^ 30) : PF (.int i) := .inl ⟨i, rfl, h1, h2⟩
theorem pf_num {lo hi v : Int} (a : -1 ≤ lo) (b : hi ≤ 64) (h1 : lo - 1 ≤ v) (h2 : v ≤ hi + 1) : PF (.int v) := pf_int (by have : (10 : Int) ^ 30 = 1000000000000000000000000000000 := rfl; omega) (by have : (10 : Int) ^ 30 = 1000000000000000000000000000000 := rfl; omega)
theorem scParts : FnScope ["tape", "names", "name", "parts"] ["tape"] (defScope sParts) := ⟨rfl, rfl, rfl, by decide +kernel, rfl, by decide +kernel, by decide +kernel⟩
theorem ok_parts (F : Fun K "_law_parts" "_law_parts" sParts f fd) (GN : Def P wrl K mg base CX0 "_law_next" 1 ["tape", "many"] (spNext K) fN fdN) (GU : Def P wrl K mg base CX0 "_law_number" 2 ["tape", "low", "high"] (spNumber K) fU fdU) : FnOk P wrl K mg base CX0 3 f fd ["tape"] (spParts K) := by
  refine F.ok scParts (fun vs H Q E h => ?_) (fun cdv A outer s H vs Q E hr h => ?_)
  · obtain ⟨p, rfl, _⟩ := h
    rfl
  · obtain ⟨p, rfl, tp, k⟩ := h
    have hr1 : Room 1 _ := hr.mono (by decide)
    refine ⟨_, (pss_cons (ps_set (i := 1) scParts.nd rfl (Or.inl rfl) (pe_lst (pa_cons pe_str (pa_cons pe_str (pa_cons pe_str (pa_cons pe_str (pa_cons pe_str (pa_cons pe_str (pa_cons pe_str (pa_cons pe_str (pa_cons pe_str (pa_cons pe_str (pa_cons pe_str (pa_cons pe_str pa_nil))))))))))))))
      (pss_cons (ps_set (i := 1) scParts.nd rfl (Or.inl rfl) (pe_op op_cat (pv 1) (pe_lst (pa_cons pe_str (pa_cons pe_str pa_nil)))))
      (pss_cons (ps_set (i := 2) scParts.nd rfl (Or.inl rfl) (pe_ix ix_list (pv 1) (pe_call GN.ok hr1 (by rfl) GN.mg GN.kp GN.bd .nil pass0 (pa_cons (pv 0) (pa_cons pe_int pa_nil))) (fun _ _ => rfl)))
      (pss_cons (ps_if (pt_cmpR op_eq (pv 2) pe_str (nomark _))
      (pss_one (ps_ret (pe_lst (pa_cons pe_str pa_nil)))) pss_nil)
      (pss_cons (ps_set (i := 3) scParts.nd rfl (Or.inl rfl) (pe_lst (pa_cons (pv 2) (pa_cons (pe_call GU.ok hr (by rfl) GU.mg GU.kp GU.bd .nil pass0 (pa_cons (pv 0) (pa_cons pe_int (pa_cons pe_int pa_nil)))) pa_nil))))
      (Evl.pss_cut (ps_if (pt_cmpR op_eq (pv 2) pe_str (nomark _))
      (pss_one (ps_expr (pe_bm PySem.F.plainAttrs_list PySem.F.slot_list_append PySem.F.type_list_append mt_append (pv 3) (pa_cons (pe_call GU.ok hr (by rfl) GU.mg GU.kp GU.bd .nil pass0 (pa_cons (pv 0) (pa_cons pe_int (pa_cons pe_int pa_nil)))) pa_nil)))) pss_nil)
      (Evl.pss_cut (ps_if (PW.pt (pw_or (pt_cmpR op_eq (pv 2) pe_str (nomark _)) (pw_or1 (pt_cmpR op_eq (pv 2) pe_str (nomark _)))))
      (pss_one (ps_expr (pe_bm PySem.F.plainAttrs_list PySem.F.slot_list_append PySem.F.type_list_append mt_append (pv 3) (pa_cons (pe_ix ix_list (pe_lst (pa_cons pe_int (pa_cons (pe_op op_pow pe_int pe_int) (pa_cons pe_int (pa_cons (pe_un un_neg pe_int) pa_nil))))) (pe_call GN.ok hr1 (by rfl) GN.mg GN.kp GN.bd .nil pass0 (pa_cons (pv 0) (pa_cons pe_int pa_nil))) (fun _ _ => rfl)) pa_nil)))) pss_nil)
      (Evl.pss_cut (ps_if (PW.pt (pw_or (pt_cmpR op_eq (pv 2) pe_str (nomark _)) (pw_or (pt_cmpR op_eq (pv 2) pe_str (nomark _)) (pw_or (pt_cmpR op_eq (pv 2) pe_str (nomark _)) (pw_or1 (pt_cmpR op_eq (pv 2) pe_str (nomark _)))))))
      (pss_one (ps_expr (pe_bm PySem.F.plainAttrs_list PySem.F.slot_list_append PySem.F.type_list_append mt_append (pv 3) (pa_cons (pe_call GU.ok hr (by rfl) GU.mg GU.kp GU.bd .nil pass0 (pa_cons (pv 0) (pa_cons pe_int (pa_cons pe_int pa_nil)))) pa_nil)))) pss_nil)
      (Evl.pss_cut (ps_if (pt_cmpR op_eq (pv 2) pe_str (nomark _))
      (pss_one (ps_expr (pe_bm PySem.F.plainAttrs_list PySem.F.slot_list_append PySem.F.type_list_append mt_append (pv 3) (pa_cons (pe_ix ix_list (pe_lst (pa_cons pe_int (pa_cons (pe_un un_neg pe_int) (pa_cons (pe_op op_pow pe_int pe_int) (pa_cons pe_int pa_nil))))) (pe_call GN.ok hr1 (by rfl) GN.mg GN.kp GN.bd .nil pass0 (pa_cons (pv 0) (pa_cons pe_int pa_nil))) (fun _ _ => rfl)) pa_nil)))) pss_nil)
      (Evl.pss_cut (ps_if (pt_cmpR op_eq (pv 2) pe_str (nomark _))
      (pss_one (ps_expr (pe_bm PySem.F.plainAttrs_list PySem.F.slot_list_append PySem.F.type_list_append mt_append (pv 3) (pa_cons (pe_ix ix_list (pe_lst (pa_cons pe_str (pa_cons pe_str (pa_cons pe_str (pa_cons pe_str (pa_cons pe_int pa_nil)))))) (pe_call GN.ok hr1 (by rfl) GN.mg GN.kp GN.bd .nil pass0 (pa_cons (pv 0) (pa_cons pe_int pa_nil))) (fun _ _ => rfl)) pa_nil)))) pss_nil)
      (Evl.pss_cut (ps_if (pt_cmpR op_eq (pv 2) pe_str (nomark _))
      (pss_one (ps_expr (pe_bm PySem.F.plainAttrs_list PySem.F.slot_list_append PySem.F.type_list_append mt_append (pv 3) (pa_cons (pe_call GU.ok hr (by rfl) GU.mg GU.kp GU.bd .nil pass0 (pa_cons (pv 0) (pa_cons pe_int (pa_cons pe_int pa_nil)))) pa_nil)))) pss_nil)
      (pss_one (ps_ret (pv 3)))))))))))))), ?_⟩
    refine ⟨by show 12 ≤ sizeLine; decide, fun a ha => ?_⟩
    generalize hH1 : upd H a _ = H1
    have s1 : Same H H1 := by rw [← hH1]; exact same_new ha
    have ha1 : H1 a = some (.lst (names12.map V.str)) := by rw [← hH1]; exact upd_same
    refine ⟨_, rfl, by show 2 ≤ sizeLine; decide, fun b hb => ?_⟩
    generalize hH2 : upd H1 b _ = H2
    have s2 : Same H1 H2 := by rw [← hH2]; exact same_new hb
    have ha2 := s2 _ _ ha1
    have hb2 : H2 b = some (.lst [V.str "preempt", .str "flush"]) := by rw [← hH2]; exact upd_same
    refine ⟨a, b, _, _, rfl, rfl, ha2, hb2, by show 14 ≤ sizeLine; decide, fun c hc => ?_⟩
    generalize hH3 : upd H2 c _ = H3
    have s3 : Same H2 H3 := by rw [← hH3]; exact same_new hc
    have hc3 : H3 c = some (.lst (names14.map V.str)) := by rw [← hH3]; exact upd_same
    have s03 := (s1.trans s2).trans s3
    have t3 := tp.same s03
    have ncp : c ≠ p := fun e => by
      obtain ⟨x, hx⟩ := (tp.same (s1.trans s2)).lst
      rw [e, hx] at hc; cases hc
    -- name = names[_law_next(tape, 14)]
    refine ⟨_, rfl, _, rfl, p, 14, rfl, t3, by decide, by decide, fun r H4 r0 r1 o4 t4 => ?_⟩
    have hc4 := o4 _ _ hc3 (by simpa using ncp)
    have hrl : r.toNat < names14.length := by show r.toNat < 14; omega
    refine ⟨c, _, _, V.str (names14[r.toNat]), rfl, rfl, SqL.of hc4, ?_, ?_⟩
    · have := atI_nat (get_map (f := V.str) (List.getElem?_eq_getElem hrl))
      rw [show ((r.toNat : Nat) : Int) = r by omega] at this
      exact this
    have hnm : names14[r.toNat] ∈ names14 := List.getElem_mem hrl
    generalize names14[r.toNat] = name at hnm
    have o04 : Off [p] H H4 := (Off.of s03).trans o4
    refine ⟨_, rfl, rfl, _, rfl, ?_⟩
    by_cases e0 : name = "flush"
    · subst e0
      rw [str_eqT]
      refine iteT ⟨by show 1 ≤ sizeLine; decide, fun l hl => ?_⟩
      have hl0 : H l = none := by
        cases e : H l with
        | none => rfl
        | some o =>
          by_cases ep : l = p
          · obtain ⟨x, hx⟩ := t4.lst
            rw [ep, hx] at hl; cases hl
          · rw [o04 _ _ e (by simpa using ep)] at hl; cases hl
      exact k l "flush" [] _ hnm hl0 (t4.same (same_new hl)) upd_same (o04.trans (Off.of (same_new hl))) (fun x hx => by cases hx) (by decide) (fun x hx => by cases hx)
    rw [str_eqF e0]
    refine iteF ?_
    -- parts = [name, _law_number(tape, 1, 8)]
    refine ⟨_, rfl, _, rfl, p, 1, 8, rfl, t4, by decide, by decide, fun v H5 v0 v1 o5 t5 => ⟨by show 2 ≤ sizeLine; decide, fun l hl => ?_⟩⟩
    have o05 := o04.trans o5
    have nlp : l ≠ p := fun e => by
      obtain ⟨x, hx⟩ := t5.lst
      rw [e, hx] at hl; cases hl
    have hl0 : H l = none := by
      cases e : H l with
      | none => rfl
      | some o => rw [o05 _ _ e (by simpa using nlp)] at hl; cases hl
    have J0 : PJ K H p l name 0 (upd H5 l (.lst [.str name, .int v])) := ⟨v, [], t5.same (same_new hl), upd_same, o05.trans (Off.of (same_new hl)), (fun x hx => by rw [List.mem_singleton.mp hx]; exact pf_num (by decide) (by decide) v0 v1), Nat.le_refl _⟩
    generalize upd H5 l (.lst [.str name, .int v]) = H6 at J0
    have num : ∀ (lo hi : Int) (n : Nat) (H6 : Hp) (D : Ends), PJ K H p l name n H6 → -1 ≤ lo → hi ≤ 64 → lo ≤ hi → n < 9 → (∀ H7, PJ K H p l name (n + 1) H7 → D.nx [some (.ref p), some (.ref c), some (.str name), some (.ref l)] H7) →
        tDrop (tBM K "list" rAppend (tVar 3) (tCons (tCall (spNumber K) [] E0 (tCons (tVar 0) (tCons (tC (.int lo)) (tCons (tC (.int hi)) tNil)))) tNil)) D [some (.ref p), some (.ref c), some (.str name), some (.ref l)] H6 := by
      intro lo hi n H6 D J h1 h2 h3 h4 q
      obtain ⟨xs, hl6, hsz, _⟩ := J.snoc nlp hl0 (pf_int (i := 0) (by decide) (by decide)) h4
      refine ⟨_, rfl, .inl ⟨rfl, _, SqL.of hl6⟩, _, rfl, p, lo, hi, rfl, J.choose_spec.choose_spec.1, h3, by omega, fun v H7 v0 v1 o7 t7 => ?_⟩
      have J7 := J.off nlp o7 t7
      obtain ⟨xs, hl7, hsz, J8⟩ := J7.snoc nlp hl0 (pf_num h1 h2 v0 v1) h4
      exact nil_ ⟨_, _, _, rfl, rfl, hl7, hsz, q _ J8⟩
    have pick : ∀ (es : List V) (n : Nat) (H6 : Hp) (l2 : Addr) (Q2 : VK), PJ K H p l name n H6 → (∀ x ∈ es, PF x) → 0 < es.length → es.length < 1000 → n < 9 → H6 l2 = some (.lst es) → l2 ≠ p → (∀ x H7, x ∈ es → PJ K H p l name n H7 → Q2 x H7) →
        tOp (rIxL K) (tC (.ref l2)) (tCall (spNext K) [] E0 (tCons (tVar 0) (tCons (tC (.int es.length)) tNil))) [some (.ref p), some (.ref c), some (.str name), some (.ref l)] H6 Q2 := by
      intro es n H6 l2 Q2 J hp hpos hlt hn hl2 n2 q
      refine ⟨_, rfl, p, (es.length : Int), rfl, J.choose_spec.choose_spec.1, by omega, by omega, fun r H7 r0 r1 o7 t7 => ?_⟩
      have hj : r.toNat < es.length := by omega
      refine ⟨l2, _, _, es[r.toNat], rfl, rfl, SqL.of (o7 _ _ hl2 (by simpa using n2)), ?_, q _ _ (List.getElem_mem hj) (J.off nlp o7 t7)⟩
      have := atI_nat (List.getElem?_eq_getElem hj)
      rw [show ((r.toNat : Nat) : Int) = r by omega] at this
      exact this
    have app : ∀ (es : List V) (n : Nat) (H6 : Hp) (l2 : Addr) (D : Ends), PJ K H p l name n H6 → (∀ x ∈ es, PF x) → 0 < es.length → es.length < 1000 → n < 9 → H6 l2 = none →
        (∀ H7, PJ K H p l name (n + 1) H7 → D.nx [some (.ref p), some (.ref c), some (.str name), some (.ref l)] H7) →
        tOp (rIxL K) (tC (.ref l2)) (tCall (spNext K) [] E0 (tCons (tVar 0) (tCons (tC (.int es.length)) tNil))) [some (.ref p), some (.ref c), some (.str name), some (.ref l)] (upd H6 l2 (.lst es)) (fun x H7 => rAppend (.ref l) [x] H7 fun _ H8 => D.nx [some (.ref p), some (.ref c), some (.str name), some (.ref l)] H8) := by
      intro es n H6 l2 D J hp hpos hlt hn hl2 q
      have tp6 := J.choose_spec.choose_spec.1
      have n2 : l2 ≠ p := fun e => by
        obtain ⟨x, hx⟩ := tp6.lst
        rw [e, hx] at hl2; cases hl2
      have s2 := same_new (o := .lst es) hl2
      refine pick es n _ l2 _ (J.off nlp (Off.of s2) (tp6.same s2)) hp hpos hlt hn upd_same n2 (fun x H7 hx J7 => ?_)
      obtain ⟨xs, hl7, hsz, J8⟩ := J7.snoc nlp hl0 (hp x hx) hn
      exact ⟨_, _, _, rfl, rfl, hl7, hsz, q _ J8⟩
    -- if name == "make"
    refine ⟨fun σ H7 => σ = [some (.ref p), some (.ref c), some (.str name), some (.ref l)] ∧ PJ K H p l name 1 H7, ⟨_, rfl, rfl, _, rfl, ite2 (fun _ => num 1 64 0 _ _ J0 (by decide) (by decide) (by decide) (by decide) fun H7 J => ⟨rfl, J⟩) (fun _ => ⟨rfl, J0.mono (by decide)⟩)⟩, ?_⟩
    rintro σ H7 ⟨rfl, J1⟩
    -- if name == "view" or name == "drop"
    refine ⟨fun σ H7 => σ = [some (.ref p), some (.ref c), some (.str name), some (.ref l)] ∧ PJ K H p l name 2 H7, ⟨_, rfl, rfl, _, rfl, ite2 (fun _ => iteT ?_) (fun _ => ⟨_, rfl, rfl, _, rfl, ite2 (fun _ => ?_) (fun _ => ⟨rfl, J1.mono (by decide)⟩)⟩)⟩, ?_⟩
    · obtain ⟨xs, hl7, _⟩ := J1.snoc nlp hl0 (pf_int (i := 0) (by decide) (by decide)) (by decide)
      refine ⟨_, rfl, .inl ⟨rfl, _, SqL.of hl7⟩, _, _, rfl, rfl, ⟨by decide, by decide, by decide⟩, _, rfl, by show 4 ≤ sizeLine; decide, fun l2 hl2 => ?_⟩
      exact app [.int 1, .int (10 ^ 20), .int 0, .int (-1)] 1 H7 l2 _ J1 (by
        intro x hx
        simp only [List.mem_cons, List.not_mem_nil, or_false] at hx
        rcases hx with rfl | rfl | rfl | rfl <;> exact pf_int (by decide) (by decide)) (by decide) (by decide) (by decide) hl2 (fun H7 J => ⟨rfl, J⟩)
    · obtain ⟨xs, hl7, _⟩ := J1.snoc nlp hl0 (pf_int (i := 0) (by decide) (by decide)) (by decide)
      refine ⟨_, rfl, .inl ⟨rfl, _, SqL.of hl7⟩, _, _, rfl, rfl, ⟨by decide, by decide, by decide⟩, _, rfl, by show 4 ≤ sizeLine; decide, fun l2 hl2 => ?_⟩
      exact app [.int 1, .int (10 ^ 20), .int 0, .int (-1)] 1 H7 l2 _ J1 (by
        intro x hx
        simp only [List.mem_cons, List.not_mem_nil, or_false] at hx
        rcases hx with rfl | rfl | rfl | rfl <;> exact pf_int (by decide) (by decide)) (by decide) (by decide) (by decide) hl2 (fun H7 J => ⟨rfl, J⟩)
    clear J0 J1
    rintro σ H7 ⟨rfl, J1⟩
    -- if name == "write" or name == "trim" or name == "read" or name == "view"
    have n63 := fun D => num 0 63 2 H7 D J1 (by decide) (by decide) (by decide) (by decide)
    refine ⟨fun σ H7 => σ = [some (.ref p), some (.ref c), some (.str name), some (.ref l)] ∧ PJ K H p l name 3 H7, ⟨_, rfl, rfl, _, rfl, ite2 (fun _ => iteT (n63 _ fun H7 J => ⟨rfl, J⟩)) (fun _ => ⟨_, rfl, rfl, _, rfl, ite2 (fun _ => iteT (n63 _ fun H7 J => ⟨rfl, J⟩)) (fun _ => ⟨_, rfl, rfl, _, rfl, ite2 (fun _ => iteT (n63 _ fun H7 J => ⟨rfl, J⟩)) (fun _ => ⟨_, rfl, rfl, _, rfl, ite2 (fun _ => n63 _ fun H7 J => ⟨rfl, J⟩) (fun _ => ⟨rfl, J1.mono (by decide)⟩)⟩)⟩)⟩)⟩, ?_⟩
    clear n63 J1
    rintro σ H7 ⟨rfl, J1⟩
    -- if name == "write"
    refine ⟨fun σ H7 => σ = [some (.ref p), some (.ref c), some (.str name), some (.ref l)] ∧ PJ K H p l name 4 H7, ⟨_, rfl, rfl, _, rfl, ite2 (fun _ => ?_) (fun _ => ⟨rfl, J1.mono (by decide)⟩)⟩, ?_⟩
    · obtain ⟨xs, hl7, _⟩ := J1.snoc nlp hl0 (pf_int (i := 0) (by decide) (by decide)) (by decide)
      refine ⟨_, rfl, .inl ⟨rfl, _, SqL.of hl7⟩, _, rfl, _, _, rfl, rfl, ⟨by decide, by decide, by decide⟩, by show 4 ≤ sizeLine; decide, fun l2 hl2 => ?_⟩
      exact app [.int 0, .int (-5), .int (10 ^ 30), .int 7] 3 H7 l2 _ J1 (by
        intro x hx
        simp only [List.mem_cons, List.not_mem_nil, or_false] at hx
        rcases hx with rfl | rfl | rfl | rfl <;> exact pf_int (by decide) (by decide)) (by decide) (by decide) (by decide) hl2 (fun H7 J => ⟨rfl, J⟩)
    clear J1
    rintro σ H7 ⟨rfl, J1⟩
    -- if name == "reserve"
    refine ⟨fun σ H7 => σ = [some (.ref p), some (.ref c), some (.str name), some (.ref l)] ∧ PJ K H p l name 5 H7, ⟨_, rfl, rfl, _, rfl, ite2 (fun _ => ?_) (fun _ => ⟨rfl, J1.mono (by decide)⟩)⟩, ?_⟩
    · obtain ⟨xs, hl7, _⟩ := J1.snoc nlp hl0 (pf_int (i := 0) (by decide) (by decide)) (by decide)
      refine ⟨_, rfl, .inl ⟨rfl, _, SqL.of hl7⟩, by show 5 ≤ sizeLine; decide, fun l2 hl2 => ?_⟩
      exact app [.str "write", .str "alone", .str "none", .str "", .int 1] 4 H7 l2 _ J1 (by
        intro x hx
        simp only [List.mem_cons, List.not_mem_nil, or_false] at hx
        rcases hx with rfl | rfl | rfl | rfl | rfl
        · exact .inr ⟨_, rfl, by decide +kernel⟩
        · exact .inr ⟨_, rfl, by decide +kernel⟩
        · exact .inr ⟨_, rfl, by decide +kernel⟩
        · exact .inr ⟨_, rfl, by decide +kernel⟩
        · exact pf_int (by decide) (by decide)) (by decide) (by decide) (by decide) hl2 (fun H7 J => ⟨rfl, J⟩)
    clear J1
    rintro σ H7 ⟨rfl, J1⟩
    -- if name == "preempt"
    refine ⟨fun σ H7 => σ = [some (.ref p), some (.ref c), some (.str name), some (.ref l)] ∧ PJ K H p l name 6 H7, ⟨_, rfl, rfl, _, rfl, ite2 (fun hd => num 0 3 5 _ _ J1 (by decide) (by decide) (by decide) (by decide) fun H7 J => ⟨rfl, J⟩) (fun _ => ⟨rfl, J1.mono (by decide)⟩)⟩, ?_⟩
    rintro σ H8 ⟨rfl, v2, xs, g1, g2, g3, g4, g5⟩
    exact ⟨_, rfl, k l name _ H8 hnm hl0 g1 g2 g3 g4 (by simp only [List.length_cons]; omega) (fun x hx => ⟨v2, by simpa using hx.symm⟩)⟩
end
end Sg

set_option Elab.async false
set_option linter.all false
set_option maxRecDepth 100000
set_option maxHeartbeats 4000000
namespace Sg
open PySem PySem.Spec PyProof.Rows L2
def okI : PyData → Prop
  | .int i => -(10 ^ 30) ≤ i ∧ i ≤ 10 ^ 30
  | _ => True
def spInteger (K : PySem.W.Frag) : Sp := fun vs H Q _ => ∃ x d lo hi, vs = [x, .int lo, .int hi] ∧ Dp K H x d ∧ Q (.bl (betwD lo hi d)) H
def spSize : Sp := fun vs H Q _ => ∃ p, p ∈ partsT ∧ vs = [.str p.1] ∧ ∀ H', Same H H' → Q (.int (1 + (p.2.length : Int))) H'
def spLast (K : PySem.W.Frag) : Sp := fun vs H Q _ => ∃ l k, ∃ ns : List Str, ∃ x1 xs ds, vs = [.ref l] ∧ H l = some (.lst (.str k :: x1 :: xs)) ∧ ((k, ("namespace" : Str) :: ns) : Str × List Str) ∈ partsT ∧ DpAll K H xs ds ∧ ds.length = ns.length ∧ (∀ d ∈ ds, okI d) ∧ Q (.bl (partsD ns ds)) H
def spDue (K : PySem.W.Frag) : Sp := fun vs H Q _ => ∃ l xs ds, vs = [.ref l] ∧ H l = some (.lst xs) ∧ DpAll K H xs ds ∧ xs.length ≤ 20 ∧ (∀ d ∈ ds, okI d) ∧ firstOk (.tuple ds) ∧ ∀ H', Same H H' → Q (.bl (cmdD (.tuple ds))) H'
theorem pd0 : partsD [] [] = true := rfl
theorem pd1 {n : Str} {d : PyData} : partsD [n] [d] = partD n d := by simp [partsD]
theorem pd2 {n m : Str} {d e : PyData} : partsD [n, m] [d, e] = (partD n d && partD m e) := by simp [partsD]
theorem partD_size {d : PyData} : partD "size" d = betwD 1 64 d := by unfold partD; rw [if_neg (by decide), if_pos rfl]
theorem partD_place {d : PyData} : partD "place" d = betwD 0 63 d := by unfold partD; rw [if_neg (by decide), if_neg (by decide), if_pos rfl]
theorem partD_snap {d : PyData} : partD "snapshot" d = atLeastD 1 d := by unfold partD; rw [if_neg (by decide), if_neg (by decide), if_neg (by decide), if_pos rfl]
theorem partD_victim {d : PyData} : partD "victim" d = betwD 0 3 d := by unfold partD; rw [if_neg (by decide), if_neg (by decide), if_neg (by decide), if_neg (by decide), if_pos rfl]
theorem partD_way {d : PyData} : partD "way" d = strInD ["write", "alone"] d := by unfold partD; rw [if_neg (by decide), if_neg (by decide), if_neg (by decide), if_neg (by decide), if_neg (by decide), if_pos rfl]
theorem partD_value {d : PyData} : partD "value" d = wholeD d := by unfold partD; rw [if_neg (by decide), if_neg (by decide), if_neg (by decide), if_neg (by decide), if_neg (by decide), if_neg (by decide)]
theorem big_whole {d : PyData} (h : okI d) : betwD (-(10 ^ 40)) (10 ^ 40) d = wholeD d := by
  cases d with
  | int i =>
    obtain ⟨h1, h2⟩ := h
    have e1 : (10 : Int) ^ 30 = 1000000000000000000000000000000 := rfl
    have e2 : (10 : Int) ^ 40 = 10000000000000000000000000000000000000000 := rfl
    show (decide (-(10 ^ 40) ≤ i) && decide (i ≤ 10 ^ 40)) = true
    rw [decide_eq_true (by omega), decide_eq_true (by omega)]; rfl
  | _ => rfl
theorem big_least {d : PyData} (h : okI d) : betwD 1 (10 ^ 40) d = atLeastD 1 d := by
  cases d with
  | int i =>
    obtain ⟨h1, h2⟩ := h
    have e1 : (10 : Int) ^ 30 = 1000000000000000000000000000000 := rfl
    have e2 : (10 : Int) ^ 40 = 10000000000000000000000000000000000000000 := rfl
    show (decide (1 ≤ i) && decide (i ≤ 10 ^ 40)) = decide (1 ≤ i)
    rw [decide_eq_true (show i ≤ 10 ^ 40 by omega), Bool.and_true]
  | _ => rfl
theorem dpAll_one {K : PySem.W.Frag} {H : Hp} {xs : List V} {ds : List PyData} (h : DpAll K H xs ds) (e : ds.length = 1) : ∃ x d, xs = [x] ∧ ds = [d] ∧ Dp K H x d := by
  match ds, e with
  | [d], _ =>
    obtain ⟨x, r, rfl, a, b⟩ := dpAll_cons h
    obtain rfl := dpAll_nil b
    exact ⟨_, _, rfl, rfl, a⟩
theorem dpAll_two {K : PySem.W.Frag} {H : Hp} {xs : List V} {ds : List PyData} (h : DpAll K H xs ds) (e : ds.length = 2) : ∃ x y d d2, xs = [x, y] ∧ ds = [d, d2] ∧ Dp K H x d ∧ Dp K H y d2 := by
  match ds, e with
  | [d, d2], _ =>
    obtain ⟨x, r, rfl, a, b⟩ := dpAll_cons h
    obtain ⟨y, r, rfl, a2, b⟩ := dpAll_cons b
    obtain rfl := dpAll_nil b
    exact ⟨_, _, _, _, rfl, rfl, a, a2⟩
section
variable {P : Program} {wrl : World} {K : PySem.W.Frag} {mg : Str → Option Value} {base : Heap} {f fI fS fL fW : Addr} {fd fdI fdS fdL : FuncData}
theorem scInteger : FnScope ["value", "low", "high"] ["value", "low", "high"] (defScope sInteger) := ⟨rfl, rfl, rfl, by decide +kernel, rfl, by decide +kernel, by decide +kernel⟩
theorem ok_integer (F : Fun K "_law_integer" "_law_integer" sInteger f fd) (D : Bds mg fW) : FnOk P wrl K mg base CX0 1 f fd ["value", "low", "high"] (spInteger K) := by
  refine F.ok scInteger (fun vs H Q E h => ?_) (fun cdv A outer s H vs Q E hr h => ?_)
  · obtain ⟨x, d, lo, hi, rfl, _⟩ := h
    rfl
  · obtain ⟨x, d, lo, hi, rfl, hd, q⟩ := h
    obtain ⟨t, ty, h1, h2, _⟩ := dp_ty hd
    refine ⟨_, (pss_one (ps_ret (pe_and (pe_callB call_isi (by rfl) D.isi boot_isi (pa_cons (pv 0) (pa_cons (pe_bltn (v := .ty "int") (by rfl) D.int boot_int rfl) pa_nil))) (pe_and (pe_not (pe_callB call_isi (by rfl) D.isi boot_isi (pa_cons (pv 0) (pa_cons (pe_bltn (v := .ty "bool") (by rfl) D.bool boot_bool rfl) pa_nil)))) (pe_and (pe_cmpR op_le (pv 1) (pv 0) (nomark _)) (pe_one (pe_cmpR op_le (pv 0) (pv 2) (nomark _)))))))), ?_⟩
    refine ⟨_, rfl, x, _, t, _, _, rfl, .ty "int", ty, h1, _, rfl, ?_⟩
    cases hw : wholeD d with
    | false =>
      rw [not_whole_bt hw] at q
      have := whole_eq d
      rw [hw] at this
      cases hb : intB d with
      | false => exact iteF q
      | true =>
        rw [hb] at this
        exact iteT ⟨_, rfl, x, _, t, _, _, rfl, .ty "bool", ty, h2, _, rfl, _, rfl, by
          have e : boolB d = true := by cases h : boolB d <;> simp_all
          rw [e]; exact iteF q⟩
    | true =>
      obtain ⟨i, rfl, rfl⟩ := whole_int hd hw
      refine iteT ⟨_, rfl, _, _, t, _, _, rfl, .ty "bool", ty, h2, _, rfl, _, rfl, iteT ⟨_, rfl, _, rfl, _, _, rfl, rfl, _, rfl, ?_⟩⟩
      by_cases c : lo ≤ i
      · rw [show betwD lo hi (.int i) = (decide (lo ≤ i) && decide (i ≤ hi)) from rfl, decide_eq_true c] at q
        rw [if_pos (decide_eq_true c)]
        exact ⟨_, rfl, _, rfl, _, _, rfl, rfl, q⟩
      · rw [show betwD lo hi (.int i) = (decide (lo ≤ i) && decide (i ≤ hi)) from rfl, decide_eq_false c] at q
        rw [if_neg (by rw [decide_eq_false c]; exact Bool.false_ne_true)]
        exact q
theorem scSize : FnScope ["name"] ["name"] (defScope sSize) := ⟨rfl, rfl, rfl, by decide +kernel, rfl, by decide +kernel, by decide +kernel⟩
theorem ok_size (F : Fun K "_law_size" "_law_size" sSize f fd) : FnOk P wrl K mg base CX0 1 f fd ["name"] spSize := by
  refine F.ok scSize (fun vs H Q E h => ?_) (fun cdv A outer s H vs Q E hr h => ?_)
  · obtain ⟨p, hp, rfl, _⟩ := h
    rfl
  · obtain ⟨p, hp, rfl, q⟩ := h
    refine ⟨_, (pss_cons (ps_if (pt_cmpR op_eq (pv 0) pe_str (nomark _))
      (pss_one (ps_ret pe_int)) pss_nil)
      (pss_cons (ps_if (PW.pt (pw_or (pt_cmpR op_eq (pv 0) pe_str (nomark _)) (pw_or1 (pt_cmpR op_eq (pv 0) pe_str (nomark _)))))
      (pss_one (ps_ret pe_int)) pss_nil)
      (pss_cons (ps_if (pt_cmpR op_in_seq (pv 0) (pe_tup (pa_cons pe_str (pa_cons pe_str (pa_cons pe_str (pa_cons pe_str (pa_cons pe_str (pa_cons pe_str pa_nil))))))) (by rfl))
      (pss_one (ps_ret pe_int)) pss_nil)
      (pss_one (ps_ret pe_int))))), ?_⟩
    have f1 : ∀ p ∈ partsT, p.1 = "flush" → p.2.length = 0 := by decide +kernel
    have f2 : ∀ p ∈ partsT, (p.1 = "write" ∨ p.1 = "view") → p.2.length = 3 := by decide +kernel
    have f3 : ∀ p ∈ partsT, ¬ p.1 = "flush" → ¬ (p.1 = "write" ∨ p.1 = "view") → p.2.length = if strIn p.1 ["make", "trim", "read", "drop", "reserve", "preempt"] then 2 else 1 := by decide +kernel
    have q0 := q H (Same.refl H)
    refine ⟨_, rfl, rfl, _, rfl, ?_⟩
    by_cases e1 : p.1 = "flush"
    · rw [f1 p hp e1] at q0
      rw [e1, str_eqT]; exact iteT q0
    rw [str_eqF e1]
    refine iteF ⟨_, rfl, rfl, _, rfl, ?_⟩
    by_cases e2 : p.1 = "write"
    · rw [f2 p hp (.inl e2)] at q0
      rw [e2, str_eqT]; exact iteT (iteT q0)
    rw [str_eqF e2]
    refine iteF ⟨_, rfl, rfl, _, rfl, ?_⟩
    by_cases e3 : p.1 = "view"
    · rw [f2 p hp (.inr e3)] at q0
      rw [e3, str_eqT]; exact iteT q0
    rw [str_eqF e3]
    refine iteF ⟨_, rfl, by show 6 ≤ sizeLine; decide, fun t ht => ?_⟩
    generalize hH1 : upd H t _ = H1
    have s1 : Same H H1 := by rw [← hH1]; exact same_new ht
    have ht1 : H1 t = some (.tup ((["make", "trim", "read", "drop", "reserve", "preempt"] : List Str).map V.str)) := by rw [← hH1]; exact upd_same
    refine ⟨t, _, rfl, .inr (SqT.of ht1), rfl, flat_strs, _, rfl, ?_⟩
    rw [inV_str]
    have q1 := q H1 s1
    rw [f3 p hp e1 (fun z => z.elim e2 e3)] at q1
    cases hs : strIn p.1 ["make", "trim", "read", "drop", "reserve", "preempt"] with
    | true => rw [hs] at q1; exact iteT q1
    | false => rw [hs] at q1; exact iteF q1
theorem scLast : FnScope ["parts", "name", "great"] ["parts"] (defScope sLast) := ⟨rfl, rfl, rfl, by decide +kernel, rfl, by decide +kernel, by decide +kernel⟩
theorem ok_last (F : Fun K "_law_last" "_law_last" sLast f fd) (D : Bds mg fW) (GI : Def P wrl K mg base CX0 "_law_integer" 1 ["value", "low", "high"] (spInteger K) fI fdI) : FnOk P wrl K mg base CX0 2 f fd ["parts"] (spLast K) := by
  refine F.ok scLast (fun vs H Q E h => ?_) (fun cdv A outer s H vs Q E hr h => ?_)
  · obtain ⟨l, k, ns, x1, xs, ds, rfl, _⟩ := h
    rfl
  · obtain ⟨l, k, ns, x1, xs, ds, rfl, hl, hm, ha, hn, hok, q⟩ := h
    refine ⟨_, (pss_cons (ps_set (i := 1) scLast.nd rfl (Or.inl rfl) (pe_ix ix_list (pv 0) pe_int (fun _ _ => rfl)))
      (pss_cons (ps_set (i := 2) scLast.nd rfl (Or.inl rfl) (pe_op op_pow pe_int pe_int))
      (pss_cons (ps_if (pt_cmpR op_eq (pv 1) pe_str (nomark _))
      (pss_one (ps_ret (pe_call GI.ok hr (by rfl) GI.mg GI.kp GI.bd .nil pass0 (pa_cons (pe_ix ix_list (pv 0) pe_int (fun _ _ => rfl)) (pa_cons pe_int (pa_cons pe_int pa_nil)))))) pss_nil)
      (pss_cons (ps_if (pt_cmpR op_eq (pv 1) pe_str (nomark _))
      (pss_one (ps_ret (pe_and (pe_call GI.ok hr (by rfl) GI.mg GI.kp GI.bd .nil pass0 (pa_cons (pe_ix ix_list (pv 0) pe_int (fun _ _ => rfl)) (pa_cons pe_int (pa_cons pe_int pa_nil)))) (pe_one (pe_call GI.ok hr (by rfl) GI.mg GI.kp GI.bd .nil pass0 (pa_cons (pe_ix ix_list (pv 0) pe_int (fun _ _ => rfl)) (pa_cons (pe_un un_neg (pv 2)) (pa_cons (pv 2) pa_nil)))))))) pss_nil)
      (pss_cons (ps_if (PW.pt (pw_or (pt_cmpR op_eq (pv 1) pe_str (nomark _)) (pw_or1 (pt_cmpR op_eq (pv 1) pe_str (nomark _)))))
      (pss_one (ps_ret (pe_call GI.ok hr (by rfl) GI.mg GI.kp GI.bd .nil pass0 (pa_cons (pe_ix ix_list (pv 0) pe_int (fun _ _ => rfl)) (pa_cons pe_int (pa_cons pe_int pa_nil)))))) pss_nil)
      (pss_cons (ps_if (pt_cmpR op_eq (pv 1) pe_str (nomark _))
      (pss_one (ps_ret (pe_and (pe_call GI.ok hr (by rfl) GI.mg GI.kp GI.bd .nil pass0 (pa_cons (pe_ix ix_list (pv 0) pe_int (fun _ _ => rfl)) (pa_cons pe_int (pa_cons (pv 2) pa_nil)))) (pe_one (pe_call GI.ok hr (by rfl) GI.mg GI.kp GI.bd .nil pass0 (pa_cons (pe_ix ix_list (pv 0) pe_int (fun _ _ => rfl)) (pa_cons pe_int (pa_cons pe_int pa_nil)))))))) pss_nil)
      (pss_cons (ps_if (pt_cmpR op_eq (pv 1) pe_str (nomark _))
      (pss_one (ps_ret (pe_call GI.ok hr (by rfl) GI.mg GI.kp GI.bd .nil pass0 (pa_cons (pe_ix ix_list (pv 0) pe_int (fun _ _ => rfl)) (pa_cons pe_int (pa_cons (pv 2) pa_nil)))))) pss_nil)
      (pss_cons (ps_if (pt_cmpR op_eq (pv 1) pe_str (nomark _))
      (pss_one (ps_ret (pe_and (pe_callB call_isi (by rfl) D.isi boot_isi (pa_cons (pe_ix ix_list (pv 0) pe_int (fun _ _ => rfl)) (pa_cons (pe_bltn (v := .ty "str") (by rfl) D.str boot_str rfl) pa_nil))) (pe_one (pe_or (pe_cmpR op_eq (pe_ix ix_list (pv 0) pe_int (fun _ _ => rfl)) pe_str (nomark _)) (pe_one (pe_cmpR op_eq (pe_ix ix_list (pv 0) pe_int (fun _ _ => rfl)) pe_str (nomark _)))))))) pss_nil)
      (pss_cons (ps_if (pt_cmpR op_eq (pv 1) pe_str (nomark _))
      (pss_one (ps_ret (pe_call GI.ok hr (by rfl) GI.mg GI.kp GI.bd .nil pass0 (pa_cons (pe_ix ix_list (pv 0) pe_int (fun _ _ => rfl)) (pa_cons pe_int (pa_cons pe_int pa_nil)))))) pss_nil)
      (pss_one (ps_ret pe_bl))))))))))), ?_⟩
    refine ⟨_, rfl, l, _, _, _, rfl, rfl, SqL.of hl, atI_nat (j := 0) rfl, _, _, rfl, rfl, ⟨by decide, by decide, by decide⟩, _, rfl, rfl, _, rfl, ?_⟩
    by_cases e1 : k = "make"
    · subst e1
      have en : ns = (["size"] : List Str) := (show ∀ p ∈ partsT, p.1 = "make" → p.2 = (["namespace", "size"] : List Str) by decide +kernel) _ hm rfl |> fun z => by cases z; rfl
      subst en
      obtain ⟨x, d, rfl, rfl, hd⟩ := dpAll_one ha hn
      rw [pd1, partD_size] at q
      rw [str_eqT]
      exact iteT ⟨_, rfl, l, _, _, _, rfl, rfl, SqL.of hl, atI_nat (j := 2) rfl, x, d, 1, 64, rfl, hd, q⟩
    rw [str_eqF e1]
    refine iteF ⟨_, rfl, rfl, _, rfl, ?_⟩
    by_cases e2 : k = "write"
    · subst e2
      have en : ns = (["place", "value"] : List Str) := (show ∀ p ∈ partsT, p.1 = "write" → p.2 = (["namespace", "place", "value"] : List Str) by decide +kernel) _ hm rfl |> fun z => by cases z; rfl
      subst en
      obtain ⟨x, y, d, d2, rfl, rfl, hd, hd2⟩ := dpAll_two ha hn
      rw [pd2, partD_place, partD_value, ← big_whole (hok d2 (by simp))] at q
      rw [str_eqT]
      refine iteT ⟨_, rfl, l, _, _, _, rfl, rfl, SqL.of hl, atI_nat (j := 2) rfl, x, d, 0, 63, rfl, hd, _, rfl, ?_⟩
      cases hb : betwD 0 63 d with
      | false => rw [hb] at q; exact iteF q
      | true => rw [hb] at q; exact iteT ⟨_, rfl, l, _, _, _, rfl, rfl, SqL.of hl, atI_nat (j := 3) rfl, _, rfl, _, rfl, _, rfl, y, d2, _, _, rfl, hd2, q⟩
    rw [str_eqF e2]
    refine iteF ⟨_, rfl, rfl, _, rfl, ?_⟩
    by_cases e3 : k = "trim"
    · subst e3
      have en : ns = (["place"] : List Str) := (show ∀ p ∈ partsT, p.1 = "trim" → p.2 = (["namespace", "place"] : List Str) by decide +kernel) _ hm rfl |> fun z => by cases z; rfl
      subst en
      obtain ⟨x, d, rfl, rfl, hd⟩ := dpAll_one ha hn
      rw [pd1, partD_place] at q
      rw [str_eqT]
      exact iteT (iteT ⟨_, rfl, l, _, _, _, rfl, rfl, SqL.of hl, atI_nat (j := 2) rfl, x, d, 0, 63, rfl, hd, q⟩)
    rw [str_eqF e3]
    refine iteF ⟨_, rfl, rfl, _, rfl, ?_⟩
    by_cases e4 : k = "read"
    · subst e4
      have en : ns = (["place"] : List Str) := (show ∀ p ∈ partsT, p.1 = "read" → p.2 = (["namespace", "place"] : List Str) by decide +kernel) _ hm rfl |> fun z => by cases z; rfl
      subst en
      obtain ⟨x, d, rfl, rfl, hd⟩ := dpAll_one ha hn
      rw [pd1, partD_place] at q
      rw [str_eqT]
      exact iteT ⟨_, rfl, l, _, _, _, rfl, rfl, SqL.of hl, atI_nat (j := 2) rfl, x, d, 0, 63, rfl, hd, q⟩
    rw [str_eqF e4]
    refine iteF ⟨_, rfl, rfl, _, rfl, ?_⟩
    by_cases e5 : k = "view"
    · subst e5
      have en : ns = (["snapshot", "place"] : List Str) := (show ∀ p ∈ partsT, p.1 = "view" → p.2 = (["namespace", "snapshot", "place"] : List Str) by decide +kernel) _ hm rfl |> fun z => by cases z; rfl
      subst en
      obtain ⟨x, y, d, d2, rfl, rfl, hd, hd2⟩ := dpAll_two ha hn
      rw [pd2, partD_place, partD_snap, ← big_least (hok d (by simp))] at q
      rw [str_eqT]
      refine iteT ⟨_, rfl, l, _, _, _, rfl, rfl, SqL.of hl, atI_nat (j := 2) rfl, _, rfl, x, d, _, _, rfl, hd, _, rfl, ?_⟩
      cases hb : betwD 1 (10 ^ 40) d with
      | false => rw [hb] at q; exact (show (if betwD 1 (10 ^ (40 : Int).toNat) d = true then _ else _) from by rw [show betwD 1 (10 ^ (40 : Int).toNat) d = false from hb]; exact iteF q)
      | true => rw [hb] at q; exact (show (if betwD 1 (10 ^ (40 : Int).toNat) d = true then _ else _) from by rw [show betwD 1 (10 ^ (40 : Int).toNat) d = true from hb]; exact iteT ⟨_, rfl, l, _, _, _, rfl, rfl, SqL.of hl, atI_nat (j := 3) rfl, y, d2, 0, 63, rfl, hd2, q⟩)
    rw [str_eqF e5]
    refine iteF ⟨_, rfl, rfl, _, rfl, ?_⟩
    by_cases e6 : k = "drop"
    · subst e6
      have en : ns = (["snapshot"] : List Str) := (show ∀ p ∈ partsT, p.1 = "drop" → p.2 = (["namespace", "snapshot"] : List Str) by decide +kernel) _ hm rfl |> fun z => by cases z; rfl
      subst en
      obtain ⟨x, d, rfl, rfl, hd⟩ := dpAll_one ha hn
      rw [pd1, partD_snap, ← big_least (hok d (by simp))] at q
      rw [str_eqT]
      exact iteT ⟨_, rfl, l, _, _, _, rfl, rfl, SqL.of hl, atI_nat (j := 2) rfl, _, rfl, x, d, _, _, rfl, hd, q⟩
    rw [str_eqF e6]
    refine iteF ⟨_, rfl, rfl, _, rfl, ?_⟩
    by_cases e7 : k = "reserve"
    · subst e7
      have en : ns = (["way"] : List Str) := (show ∀ p ∈ partsT, p.1 = "reserve" → p.2 = (["namespace", "way"] : List Str) by decide +kernel) _ hm rfl |> fun z => by cases z; rfl
      subst en
      obtain ⟨x, d, rfl, rfl, hd⟩ := dpAll_one ha hn
      rw [pd1, partD_way] at q
      rw [str_eqT]
      obtain ⟨t, ty, _, _, k3, _⟩ := dp_ty hd
      refine iteT ⟨_, rfl, l, _, _, _, rfl, rfl, SqL.of hl, atI_nat (j := 2) rfl, x, _, t, _, _, rfl, .ty "str", ty, k3, _, rfl, ?_⟩
      cases hd with
      | str z =>
        refine iteT ⟨_, rfl, l, _, _, _, rfl, rfl, SqL.of hl, atI_nat (j := 2) rfl, rfl, _, rfl, ?_⟩
        by_cases w1 : z = "write"
        · subst w1; rw [str_eqT]; exact iteT q
        · rw [str_eqF w1]
          refine iteF ⟨_, rfl, l, _, _, _, rfl, rfl, SqL.of hl, atI_nat (j := 2) rfl, rfl, ?_⟩
          by_cases w2 : z = "alone"
          · subst w2; rw [str_eqT]; exact q
          · rw [str_eqF w2]
            have e : strInD ["write", "alone"] (.str z) = false := by
              show (["write", "alone"] : List Str).any (fun y => decide (y = z)) = false
              simp only [List.any_cons, List.any_nil, Bool.or_false, Bool.or_eq_false_iff, decide_eq_false_iff_not]
              exact ⟨fun h => w1 h.symm, fun h => w2 h.symm⟩
            rw [e] at q; exact q
      | non => exact iteF q
      | bl b => exact iteF q
      | int i => exact iteF q
      | lst h1 h2 => exact iteF q
      | tup h1 h2 => exact iteF q
    rw [str_eqF e7]
    refine iteF ⟨_, rfl, rfl, _, rfl, ?_⟩
    by_cases e8 : k = "preempt"
    · subst e8
      have en : ns = (["victim"] : List Str) := (show ∀ p ∈ partsT, p.1 = "preempt" → p.2 = (["namespace", "victim"] : List Str) by decide +kernel) _ hm rfl |> fun z => by cases z; rfl
      subst en
      obtain ⟨x, d, rfl, rfl, hd⟩ := dpAll_one ha hn
      rw [pd1, partD_victim] at q
      rw [str_eqT]
      exact iteT ⟨_, rfl, l, _, _, _, rfl, rfl, SqL.of hl, atI_nat (j := 2) rfl, x, d, 0, 3, rfl, hd, q⟩
    rw [str_eqF e8]
    have en : ns = ([] : List Str) := (show ∀ p ∈ partsT, ¬ p.1 = "make" → ¬ p.1 = "write" → ¬ p.1 = "trim" → ¬ p.1 = "read" → ¬ p.1 = "view" → ¬ p.1 = "drop" → ¬ p.1 = "reserve" → ¬ p.1 = "preempt" → ¬ p.1 = "flush" → p.2 = (["namespace"] : List Str) by decide +kernel) _ hm e1 e2 e3 e4 e5 e6 e7 e8 (fun z => by
      have : ∀ p ∈ partsT, p.1 = "flush" → p.2 = ([] : List Str) := by decide +kernel
      have := this _ hm z
      cases this) |> fun z => by cases z; rfl
    subst en
    have e9 : ds = [] := List.length_eq_zero_iff.mp hn
    subst e9
    exact iteF q
theorem scDue : FnScope ["parts", "names"] ["parts"] (defScope sDue) := ⟨rfl, rfl, rfl, by decide +kernel, rfl, by decide +kernel, by decide +kernel⟩
theorem ok_due (F : Fun K "_law_due" "_law_due" sDue f fd) (B : LB mg) (D : Bds mg fW) (GI : Def P wrl K mg base CX0 "_law_integer" 1 ["value", "low", "high"] (spInteger K) fI fdI) (GS : Def P wrl K mg base CX0 "_law_size" 1 ["name"] spSize fS fdS)
    (GL : Def P wrl K mg base CX0 "_law_last" 2 ["parts"] (spLast K) fL fdL) : FnOk P wrl K mg base CX0 3 f fd ["parts"] (spDue K) := by
  refine F.ok scDue (fun vs H Q E h => ?_) (fun cdv A outer s H vs Q E hr h => ?_)
  · obtain ⟨l, xs, ds, rfl, _⟩ := h
    rfl
  · obtain ⟨l, xs, ds, rfl, hl, ha, hx, hok, hf, q⟩ := h
    have hr1 : Room 1 _ := hr.mono (by decide)
    refine ⟨_, (pss_cons (ps_set (i := 1) scDue.nd rfl (Or.inl rfl) (pe_lst (pa_cons pe_str (pa_cons pe_str (pa_cons pe_str (pa_cons pe_str (pa_cons pe_str (pa_cons pe_str (pa_cons pe_str (pa_cons pe_str (pa_cons pe_str (pa_cons pe_str (pa_cons pe_str (pa_cons pe_str pa_nil))))))))))))))
      (pss_cons (ps_set (i := 1) scDue.nd rfl (Or.inl rfl) (pe_op op_cat (pv 1) (pe_lst (pa_cons pe_str (pa_cons pe_str pa_nil)))))
      (pss_cons (ps_if (PW.pt (pw_or (pt_cmpR op_eq (pe_callB call_len_seq (by rfl) B.len PySem.boot_len (pa_cons (pv 0) pa_nil)) pe_int (nomark _)) (pw_or (pt_not (pt_val (pe_callB call_isi (by rfl) D.isi boot_isi (pa_cons (pe_ix ix_list (pv 0) pe_int (fun _ _ => rfl)) (pa_cons (pe_bltn (v := .ty "str") (by rfl) D.str boot_str rfl) pa_nil))))) (pw_or1 (pt_cmpR op_notIn_seq (pe_ix ix_list (pv 0) pe_int (fun _ _ => rfl)) (pv 1) (by rfl))))))
      (pss_one (ps_ret pe_bl)) pss_nil)
      (pss_cons (ps_if (pt_cmpR op_ne (pe_callB call_len_seq (by rfl) B.len PySem.boot_len (pa_cons (pv 0) pa_nil)) (pe_call GS.ok hr1 (by rfl) GS.mg GS.kp GS.bd .nil pass0 (pa_cons (pe_ix ix_list (pv 0) pe_int (fun _ _ => rfl)) pa_nil)) (nomark _))
      (pss_one (ps_ret pe_bl)) pss_nil)
      (pss_cons (ps_if (pt_cmpR op_eq (pe_ix ix_list (pv 0) pe_int (fun _ _ => rfl)) pe_str (nomark _))
      (pss_one (ps_ret pe_bl)) pss_nil)
      (pss_one (ps_ret (pe_and (pe_call GI.ok hr1 (by rfl) GI.mg GI.kp GI.bd .nil pass0 (pa_cons (pe_ix ix_list (pv 0) pe_int (fun _ _ => rfl)) (pa_cons pe_int (pa_cons pe_int pa_nil)))) (pe_one (pe_call GL.ok hr (by rfl) GL.mg GL.kp GL.bd .nil pass0 (pa_cons (pv 0) pa_nil))))))))))), ?_⟩
    refine ⟨by show 12 ≤ sizeLine; decide, fun a haN => ?_⟩
    generalize hH1 : upd H a _ = H1
    have s1 : Same H H1 := by rw [← hH1]; exact same_new haN
    have ha1 : H1 a = some (.lst (names12.map V.str)) := by rw [← hH1]; exact upd_same
    refine ⟨_, rfl, by show 2 ≤ sizeLine; decide, fun b hb => ?_⟩
    generalize hH2 : upd H1 b _ = H2
    have s2 : Same H1 H2 := by rw [← hH2]; exact same_new hb
    have ha2 := s2 _ _ ha1
    have hb2 : H2 b = some (.lst [V.str "preempt", .str "flush"]) := by rw [← hH2]; exact upd_same
    refine ⟨a, b, _, _, rfl, rfl, ha2, hb2, by show 14 ≤ sizeLine; decide, fun c hc => ?_⟩
    generalize hH3 : upd H2 c _ = H3
    have s3 : Same H2 H3 := by rw [← hH3]; exact same_new hc
    have hc3 : H3 c = some (.lst (names14.map V.str)) := by rw [← hH3]; exact upd_same
    have s03 := (s1.trans s2).trans s3
    have hl3 := s03 _ _ hl
    have ha3 := dpAll_same s03 _ _ ha
    have q3 := q H3 s03
    have hlen := dpAll_len ha
    refine ⟨_, rfl, l, _, rfl, .inl (SqL.of hl3), rfl, _, rfl, ?_⟩
    cases ds with
    | nil =>
      have e : xs = [] := List.length_eq_zero_iff.mp hlen
      subst e
      exact iteT (iteT q3)
    | cons d0 fs =>
      obtain ⟨x0, ys, rfl, a0, as⟩ := dpAll_cons ha3
      rw [decide_eq_false (show ¬ V.int (((x0 :: ys).length : Nat) : Int) = V.int 0 by intro z; injection z with z; simp only [List.length_cons] at z; omega)]
      obtain ⟨t1, ty1, _, _, k3, _⟩ := dp_ty a0
      refine iteF ⟨_, rfl, l, _, _, _, rfl, rfl, SqL.of hl3, atI_nat (j := 0) rfl, x0, _, t1, _, _, rfl, .ty "str", ty1, k3, _, rfl, ?_⟩
      cases hk : strB d0 with
      | false =>
        have e : cmdD (.tuple (d0 :: fs)) = false := by cases d0 <;> first | rfl | cases hk
        rw [e] at q3
        exact iteT (iteT q3)
      | true =>
        obtain ⟨k, rfl, rfl⟩ : ∃ k, x0 = .str k ∧ d0 = .str k := by
          cases a0 <;> first | exact ⟨_, rfl, rfl⟩ | cases hk
        refine iteF ⟨_, rfl, l, _, _, _, rfl, rfl, SqL.of hl3, atI_nat (j := 0) rfl, _, rfl, c, _, rfl, .inl (SqL.of hc3), rfl, flat_strs, _, rfl, ?_⟩
        rw [inV_str]
        have hf' : k = "" ∨ ∃ ns, partsT.lookup k = some ns := hf
        rcases hf' with rfl | ⟨ns, hlook⟩
        · rw [cmd_empty] at q3
          rw [show strIn "" names14 = false by decide +kernel]
          exact iteT q3
        have hmem := PySem.mem_of_lookup hlook
        rw [show strIn k names14 = true from (show ∀ p ∈ partsT, strIn p.1 names14 = true by decide +kernel) _ hmem]
        rw [cmd_eq hlook] at q3 q
        have hl2 := dpAll_len as
        refine iteF ⟨_, rfl, l, _, rfl, .inl (SqL.of hl3), _, rfl, l, _, _, _, rfl, rfl, SqL.of hl3, atI_nat (j := 0) rfl, (k, ns), hmem, rfl, fun H4 s4 => ⟨rfl, _, rfl, ?_⟩⟩
        have q4 := q H4 (s03.trans s4)
        have hl4 := s4 _ _ hl3
        by_cases hfl : fs.length = ns.length
        · rw [decide_eq_true (show V.int (((V.str k :: ys).length : Nat) : Int) = V.int (1 + ((ns.length : Nat) : Int)) by
            simp only [List.length_cons]; congr 1; omega)]
          rw [decide_eq_true hfl] at q4
          refine iteF ⟨_, rfl, l, _, _, _, rfl, rfl, SqL.of hl4, atI_nat (j := 0) rfl, rfl, _, rfl, ?_⟩
          by_cases e1 : k = "flush"
          · subst e1
            have en := (show ∀ p ∈ partsT, p.1 = "flush" → p.2 = ([] : List Str) by decide +kernel) _ hmem rfl
            have en' : ns = [] := en
            subst en'
            have e9 : fs = [] := List.length_eq_zero_iff.mp hfl
            subst e9
            rw [str_eqT]; exact iteT q4
          rw [str_eqF e1]
          obtain ⟨ns', rfl⟩ : ∃ ns' : List Str, ns = ("namespace" : Str) :: ns' := by
            have := (show ∀ p ∈ partsT, ¬ p.1 = "flush" → p.2.head? = some ("namespace" : Str) by decide +kernel) _ hmem e1
            cases ns with
            | nil => cases this
            | cons n ns => exact ⟨ns, by have h2 : some n = some ("namespace" : Str) := this; cases h2; rfl⟩
          cases fs with
          | nil => simp at hfl
          | cons d1 fs' =>
            obtain ⟨x1, ys', rfl, a1, as'⟩ := dpAll_cons (dpAll_same s4 _ _ as)
            have ep : partsD (("namespace" : Str) :: ns') (d1 :: fs') = (betwD 1 8 d1 && partsD ns' fs') := by
              unfold partsD
              rw [List.zip_cons_cons, List.all_cons]
              congr 1
            rw [ep] at q4
            refine iteF ⟨_, rfl, l, _, _, _, rfl, rfl, SqL.of hl4, atI_nat (j := 1) rfl, x1, d1, 1, 8, rfl, a1, _, rfl, ?_⟩
            cases hb : betwD 1 8 d1 with
            | false => rw [hb] at q4; exact iteF q4
            | true =>
              rw [hb] at q4
              exact iteT ⟨_, rfl, l, k, ns', x1, ys', fs', rfl, hl4, hmem, as', by simpa using hfl, (fun d hd => hok d (List.mem_cons_of_mem _ (List.mem_cons_of_mem _ hd))), q4⟩
        · rw [decide_eq_false (show ¬ V.int (((V.str k :: ys).length : Nat) : Int) = V.int (1 + ((ns.length : Nat) : Int)) by
            intro z; injection z with z; simp only [List.length_cons] at z; omega)]
          rw [decide_eq_false hfl] at q4
          exact iteT q4
end
end Sg

set_option Elab.async false
set_option linter.all false
set_option maxRecDepth 100000
set_option maxHeartbeats 8000000
namespace Sg
open PySem PySem.Spec PyProof.Rows L2
def spLaw (K : PySem.W.Frag) : Sp := fun vs H Q _ => ∃ (a : Addr) (ns : List Int), vs = [.ref a] ∧ SqL K H a (ns.map V.int) ∧ ns.length ≤ 63 ∧ ∀ H', Q (.bl true) H'
/-- a part, whatever it was replaced by -/
def PV (H : Hp) (x : V) : Prop := PF x ∨ (∃ b, x = .bl b) ∨ x = .non ∨ (∃ a, x = .ref a ∧ H a = some (.lst [])) ∨ ∃ t, x = .ref t ∧ H t = some (.tup [.int 1])
def FV (xs : List V) : Prop := ∀ k : Str, xs[0]? = some (.str k) → k = "" ∨ ∃ ns, partsT.lookup k = some ns
def oth (e t : Addr) : List V := [.bl true, .non, .str "write", .ref e, .ref t, .int 3, .str "", .int (-1), .bl false]
structure OT (H : Hp) (e t o : Addr) : Prop where
  he : H e = some (.lst [])
  ht : H t = some (.tup [.int 1])
  ho : H o = some (.lst (oth e t))
theorem OT.same {H H' : Hp} {e t o : Addr} (h : OT H e t o) (s : Same H H') : OT H' e t o := ⟨s _ _ h.he, s _ _ h.ht, s _ _ h.ho⟩
theorem PV.same {H H' : Hp} {x : V} (h : PV H x) (s : Same H H') : PV H' x := by
  rcases h with h | h | h | ⟨a, h1, h2⟩ | ⟨t, h1, h2⟩
  · exact .inl h
  · exact .inr (.inl h)
  · exact .inr (.inr (.inl h))
  · exact .inr (.inr (.inr (.inl ⟨a, h1, s _ _ h2⟩)))
  · exact .inr (.inr (.inr (.inr ⟨t, h1, s _ _ h2⟩)))
theorem OT.off {K : PySem.W.Frag} {H H' : Hp} {e t o p : Addr} (h : OT H e t o) (tp : TapeAt K H p) (f : Off [p] H H') : OT H' e t o := by
  obtain ⟨q, ns, i, rest, seed, h1, _⟩ := tp
  refine ⟨f _ _ h.he ?_, f _ _ h.ht ?_, f _ _ h.ho ?_⟩
  · simpa using ne_of h.he h1 (by intro z; cases z)
  · simpa using ne_of h.ht h1 (by intro z; cases z)
  · simpa using ne_of h.ho h1 (by intro z; cases z)
theorem PV.off {K : PySem.W.Frag} {H H' : Hp} {x : V} {p : Addr} (h : PV H x) (tp : TapeAt K H p) (f : Off [p] H H') : PV H' x := by
  obtain ⟨q, ns, i, rest, seed, h1, _⟩ := tp
  rcases h with h | h | h | ⟨a, g1, g2⟩ | ⟨t, g1, g2⟩
  · exact .inl h
  · exact .inr (.inl h)
  · exact .inr (.inr (.inl h))
  · exact .inr (.inr (.inr (.inl ⟨a, g1, f _ _ g2 (by simpa using ne_of g2 h1 (by intro z; cases z))⟩)))
  · exact .inr (.inr (.inr (.inr ⟨t, g1, f _ _ g2 (by simpa using ne_of g2 h1 (by intro z; cases z))⟩)))
theorem pv_dp {K : PySem.W.Frag} {H : Hp} {x : V} (h : PV H x) : ∃ d, Dp K H x d ∧ okI d ∧ (cmdD d = false ∧ firstOk d) := by
  rcases h with (⟨i, rfl, h1, h2⟩ | ⟨s, rfl, hs⟩) | ⟨b, rfl⟩ | rfl | ⟨a, rfl, h⟩ | ⟨t, rfl, h⟩
  · exact ⟨_, .int i, ⟨h1, h2⟩, rfl, trivial⟩
  · exact ⟨_, .str s, trivial, rfl, trivial⟩
  · exact ⟨_, .bl b, trivial, rfl, trivial⟩
  · exact ⟨_, .non, trivial, rfl, trivial⟩
  · exact ⟨_, .lst (SqL.of h) .nil, trivial, rfl, trivial⟩
  · exact ⟨_, .tup (SqT.of h) (.cons (.int 1) .nil), trivial, rfl, trivial⟩
theorem pvs_dp {K : PySem.W.Frag} {H : Hp} : ∀ {xs : List V}, (∀ x ∈ xs, PV H x) → ∃ ds, DpAll K H xs ds ∧ ∀ d ∈ ds, okI d
  | [], _ => ⟨[], .nil, fun d h => by cases h⟩
  | x :: xs, h => by
    obtain ⟨ds, a, b⟩ := pvs_dp (K := K) (xs := xs) fun y hy => h y (List.mem_cons_of_mem _ hy)
    obtain ⟨d, c, e, _⟩ := pv_dp (K := K) (h x List.mem_cons_self)
    exact ⟨d :: ds, .cons c a, fun z hz => by
      rcases List.mem_cons.mp hz with rfl | hz
      · exact e
      · exact b z hz⟩
theorem fv_ok {K : PySem.W.Frag} {H : Hp} {xs : List V} {ds : List PyData} (h : DpAll K H xs ds) (f : FV xs) : firstOk (.tuple ds) := by
  cases ds with
  | nil => exact trivial
  | cons d ds =>
    obtain ⟨x, xs', rfl, a, b⟩ := dpAll_cons h
    cases a with
    | str k => exact f k rfl
    | non => exact trivial
    | bl b => exact trivial
    | int i => exact trivial
    | lst h1 h2 => exact trivial
    | tup h1 h2 => exact trivial
theorem names_look : ∀ k ∈ names14, ∃ ns, partsT.lookup k = some ns := by
  have : ∀ k ∈ names14, (partsT.lookup k).isSome = true := by decide +kernel
  intro k hk
  exact Option.isSome_iff_exists.mp (this k hk)
theorem cmd_true {ds : List PyData} (h : cmdD (.tuple ds) = true) : ∃ k fs ns, ds = .str k :: fs ∧ partsT.lookup k = some ns ∧ fs.length = ns.length ∧ partsD ns fs = true := by
  cases ds with
  | nil => cases h
  | cons d fs =>
    cases d with
    | str k =>
      cases e : partsT.lookup k with
      | none =>
        have h' : (match partsT.lookup k with
          | some ns => decide (fs.length = ns.length) && partsD ns fs
          | none => false) = true := h
        rw [e] at h'; cases h'
      | some ns =>
        rw [cmd_eq e, Bool.and_eq_true] at h
        exact ⟨k, fs, ns, rfl, e, of_decide_eq_true h.1, h.2⟩
    | _ => cases h
theorem oth_pv {H : Hp} {e t o : Addr} (h : OT H e t o) : ∀ x ∈ oth e t, PV H x := by
  intro x hx
  simp only [oth, List.mem_cons, List.not_mem_nil, or_false] at hx
  rcases hx with rfl | rfl | rfl | rfl | rfl | rfl | rfl | rfl | rfl
  · exact .inr (.inl ⟨_, rfl⟩)
  · exact .inr (.inr (.inl rfl))
  · exact .inl (.inr ⟨_, rfl, by decide +kernel⟩)
  · exact .inr (.inr (.inr (.inl ⟨_, rfl, h.he⟩)))
  · exact .inr (.inr (.inr (.inr ⟨_, rfl, h.ht⟩)))
  · exact .inl (pf_int (by decide) (by decide))
  · exact .inl (.inr ⟨_, rfl, by decide +kernel⟩)
  · exact .inl (pf_int (by decide) (by decide))
  · exact .inr (.inl ⟨_, rfl⟩)
theorem oth_fv {e t : Addr} {x : V} (h : x ∈ oth e t) (k : Str) (hk : x = .str k) : k = "" ∨ ∃ ns, partsT.lookup k = some ns := by
  subst hk
  simp only [oth, List.mem_cons, List.not_mem_nil, or_false] at h
  rcases h with h | h | h | h | h | h | h | h | h
  · cases h
  · cases h
  · cases h; exact .inr (names_look "write" (by decide))
  · cases h
  · cases h
  · cases h
  · cases h; exact .inl rfl
  · cases h
  · cases h
abbrev LN : List Str := ["script", "tape", "turn", "parts", "others", "kind", "place", "due", "told"]
section
variable {P : Program} {wrl : World} {K : PySem.W.Frag} {mg : Str → Option Value} {base : Heap} {f fN fQ fD fC fO fW : Addr} {fd fdN fdQ fdD fdC fdO : FuncData}
theorem scLaw : FnScope LN ["script"] (defScope sLaw) := ⟨rfl, rfl, rfl, by decide +kernel, rfl, by decide +kernel, by decide +kernel⟩
theorem ok_law (F : Fun K "law" "law" sLaw f fd) (B : LB mg) (D : Bds mg fW) (GN : Def P wrl K mg base CX0 "_law_next" 1 ["tape", "many"] (spNext K) fN fdN) (GQ : Def P wrl K mg base CX0 "_law_parts" 3 ["tape"] (spParts K) fQ fdQ)
    (GD : Def P wrl K mg base CX0 "_law_due" 3 ["parts"] (spDue K) fD fdD) (GC : Def P wrl K mg base CX0 "is_command" 4 ["value"] (spIsCmd K) fC fdC) (GO : Def P wrl K mg base CX0 "namespace_of" 1 ["command"] (spNsOf K) fO fdO) :
    FnOk P wrl K mg base CX0 5 f fd ["script"] (spLaw K) := by
  refine F.ok scLaw (fun vs H Q E h => ?_) (fun cdv A outer s H vs Q E hr h => ?_)
  · obtain ⟨a, ns, rfl, _⟩ := h
    rfl
  · obtain ⟨a, ns, rfl, hS, hlen, kk⟩ := h
    have hr1 : Room 1 _ := hr.mono (by decide)
    have hr3 : Room 3 _ := hr.mono (by decide)
    refine ⟨_, (pss_cons (ps_set (i := 1) scLaw.nd rfl (Or.inl rfl) (pe_lst (pa_cons (pe_callTy call_list_of (by rfl) B.list (by decide +kernel) (pa_cons (pv 0) pa_nil)) (pa_cons pe_int (pa_cons pe_int (pa_cons pe_int pa_nil))))))
      (pss_cons (ps_for PassesOwn.never rfl (pi_range1 (by rfl) B.range (pa_cons (pe_op op_add pe_int (pe_call GN.ok hr1 (by rfl) GN.mg GN.kp GN.bd .nil pass0 (pa_cons (pv 1) (pa_cons pe_int pa_nil)))) pa_nil)) (pg_name (i := 2) scLaw.nd rfl (Or.inl rfl))
      (pss_cons (ps_set (i := 3) scLaw.nd rfl (Or.inl rfl) (pe_call GQ.ok hr3 (by rfl) GQ.mg GQ.kp GQ.bd .nil pass0 (pa_cons (pv 1) pa_nil)))
      (pss_cons (ps_set (i := 4) scLaw.nd rfl (Or.inl rfl) (pe_lst (pa_cons pe_bl (pa_cons pe_non (pa_cons pe_str (pa_cons (pe_lst pa_nil) (pa_cons (pe_tup (pa_cons pe_int pa_nil)) (pa_cons pe_int (pa_cons pe_str (pa_cons (pe_un un_neg pe_int) (pa_cons pe_bl pa_nil)))))))))))
      (pss_cons (ps_set (i := 5) scLaw.nd rfl (Or.inl rfl) (pe_call GN.ok hr1 (by rfl) GN.mg GN.kp GN.bd .nil pass0 (pa_cons (pv 1) (pa_cons pe_int pa_nil))))
      (pss_cons (ps_set (i := 6) scLaw.nd rfl (Or.inl rfl) (pe_call GN.ok hr1 (by rfl) GN.mg GN.kp GN.bd .nil pass0 (pa_cons (pv 1) (pa_cons (pe_callB call_len_seq (by rfl) B.len PySem.boot_len (pa_cons (pv 3) pa_nil)) pa_nil))))
      (Evl.pss_cut (ps_if (pt_cmpR op_eq (pv 5) pe_int (nomark _))
      (pss_one (ps_set (i := 3) scLaw.nd rfl (Or.inl rfl) (pe_op op_cat (pe_slice sl_list (pv 3) po_none (po_some (pv 6))) (pe_slice sl_list (pv 3) (po_some (pe_op op_add (pv 6) pe_int)) po_none)))) (pss_one (ps_if (pt_cmpR op_eq (pv 5) pe_int (nomark _))
      (pss_one (ps_set (i := 3) scLaw.nd rfl (Or.inl rfl) (pe_op op_cat (pv 3) (pe_lst (pa_cons (pe_ix ix_list (pv 4) (pe_call GN.ok hr1 (by rfl) GN.mg GN.kp GN.bd .nil pass0 (pa_cons (pv 1) (pa_cons pe_int pa_nil))) (fun _ _ => rfl)) pa_nil))))) (pss_one (ps_if (pt_cmpR op_eq (pv 5) pe_int (nomark _))
      (pss_one (ps_asg (pe_ix ix_list (pv 4) (pe_call GN.ok hr1 (by rfl) GN.mg GN.kp GN.bd .nil pass0 (pa_cons (pv 1) (pa_cons pe_int pa_nil))) (fun _ _ => rfl)) (pg_sub (pv 3) (pv 6) set_list))) pss_nil)))))
      (pss_cons (ps_set (i := 7) scLaw.nd rfl (Or.inl rfl) (pe_call GD.ok hr3 (by rfl) GD.mg GD.kp GD.bd .nil pass0 (pa_cons (pv 3) pa_nil)))
      (pss_cons (ps_set (i := 8) scLaw.nd rfl (Or.inl rfl) (pe_call GC.ok hr (by rfl) GC.mg GC.kp GC.bd .nil pass0 (pa_cons (pe_callTy call_tuple_of (by rfl) B.tuple (by decide +kernel) (pa_cons (pv 3) pa_nil)) pa_nil)))
      (pss_cons (ps_if (PW.pt (pw_or (pt_not (pt_val (pe_callB call_isi (by rfl) D.isi boot_isi (pa_cons (pv 8) (pa_cons (pe_bltn (v := .ty "bool") (by rfl) D.bool boot_bool rfl) pa_nil))))) (pw_or (pt_cmpR op_ne (pv 8) (pv 7) (nomark _)) (pw_or1 (pt_cmpR op_isNotB (pe_call GC.ok hr (by rfl) GC.mg GC.kp GC.bd .nil pass0 (pa_cons (pe_callTy call_list_of (by rfl) B.list (by decide +kernel) (pa_cons (pv 3) pa_nil)) pa_nil)) pe_bl (nomark _))))))
      (pss_one (ps_ret pe_bl)) pss_nil)
      (pss_cons (ps_if (pt_cmpR op_isNotB (pe_call GC.ok hr (by rfl) GC.mg GC.kp GC.bd .nil pass0 (pa_cons (pe_ix ix_list (pv 4) (pe_call GN.ok hr1 (by rfl) GN.mg GN.kp GN.bd .nil pass0 (pa_cons (pv 1) (pa_cons pe_int pa_nil))) (fun _ _ => rfl)) pa_nil)) pe_bl (nomark _))
      (pss_one (ps_ret pe_bl)) pss_nil)
      (pss_cons (ps_if (PW.pt (pw_and (pt_val (pv 7)) (pw_and (pt_cmpR op_eq (pe_ix ix_list (pv 3) pe_int (fun _ _ => rfl)) pe_str (nomark _)) (pw_and1 (pt_cmpR op_notN (pe_call GO.ok hr1 (by rfl) GO.mg GO.kp GO.bd .nil pass0 (pa_cons (pe_callTy call_tuple_of (by rfl) B.tuple (by decide +kernel) (pa_cons (pv 3) pa_nil)) pa_nil)) pe_non (nomark _))))))
      (pss_one (ps_ret pe_bl)) pss_nil)
      (pss_one (ps_if (PW.pt (pw_and (pt_val (pv 7)) (pw_and (pt_cmpR op_ne (pe_ix ix_list (pv 3) pe_int (fun _ _ => rfl)) pe_str (nomark _)) (pw_and1 (pt_cmpR op_ne (pe_call GO.ok hr1 (by rfl) GO.mg GO.kp GO.bd .nil pass0 (pa_cons (pe_callTy call_tuple_of (by rfl) B.tuple (by decide +kernel) (pa_cons (pv 3) pa_nil)) pa_nil)) (pe_ix ix_list (pv 3) pe_int (fun _ _ => rfl)) (nomark _))))))
      (pss_one (ps_ret pe_bl)) pss_nil)))))))))))))
      (pss_one (ps_ret pe_bl)))), ?_⟩
    -- tape = [list(script), 0, 0, 9]
    refine ⟨_, rfl, a, _, rfl, .inl hS, fun q hq => ⟨by show 4 ≤ sizeLine; decide, fun p hp => ?_⟩⟩
    have tp : TapeAt K (upd (upd H q (.lst (ns.map V.int))) p (.lst [.ref q, .int 0, .int 0, .int 9])) p := by
      have nqp : q ≠ p := fun e => by rw [e] at hp; rw [upd_same] at hp; cases hp
      exact ⟨q, ns, 0, 0, 9, upd_same, SqL.of (by rw [upd_ne nqp, upd_same]), nqp, by decide, by decide, by decide⟩
    change tSeq _ _ _ _ (upd (upd H q (.lst (ns.map V.int))) p (.lst [.ref q, .int 0, .int 0, .int 9]))
    generalize upd (upd H q (.lst (ns.map V.int))) p (.lst [.ref q, .int 0, .int 0, .int 9]) = H1 at tp
    -- for turn in range(1 + _law_next(tape, 8))
    refine ⟨_, rfl, p, 8, rfl, tp, by decide, by decide, fun r H2 r0 r1 o2 t2 => ⟨_, _, rfl, rfl, nil_ ⟨_, rfl, by omega, by omega, ?_⟩⟩⟩
    refine for_range (lo := 0) (n := (1 + r).toNat) (fun i σ H' => ∃ (x2 x3 x4 x5 x6 x7 x8 : Option V), σ = [some (.ref a), some (.ref p), x2, x3, x4, x5, x6, x7, x8] ∧ TapeAt K H' p) ?_ ?_ ?_
    · exact ⟨_, _, _, _, _, _, _, rfl, t2⟩
    · rintro i σ H0 hi ⟨x2, x3, x4, x5, x6, x7, x8, rfl, t0⟩
      -- parts = _law_parts(tape)
      refine ⟨_, rfl, p, rfl, t0, fun l name xs H3 hname hl0 t3 hl3 o3 hpf hxl hint => ?_⟩
      -- others = [..]
      refine ⟨by show 0 ≤ sizeLine; decide, fun e he => ⟨by show 1 ≤ sizeLine; decide, fun t ht => ⟨_, rfl, by show 9 ≤ sizeLine; decide, fun o ho => ?_⟩⟩⟩
      have sa : Same H3 (upd H3 e (.lst [])) := same_new he
      have sb : Same (upd H3 e (.lst [])) (upd (upd H3 e (.lst [])) t (.tup [.int 1])) := same_new ht
      generalize hH6 : upd (upd (upd H3 e (.lst [])) t (.tup [.int 1])) o _ = H6
      have sc : Same (upd (upd H3 e (.lst [])) t (.tup [.int 1])) H6 := by rw [← hH6]; exact same_new ho
      have s36 : Same H3 H6 := (sa.trans sb).trans sc
      have O6 : OT H6 e t o := ⟨sc _ _ (sb _ _ upd_same), sc _ _ upd_same, by rw [← hH6]; exact upd_same⟩
      have t6 := t3.same s36
      have hl6 := s36 _ _ hl3
      -- kind = _law_next(tape, 8); place = _law_next(tape, len(parts))
      have nlp : ∀ {Hx : Hp} {ys : List V}, TapeAt K Hx p → Hx l = some (.lst (.str name :: ys)) → l ≠ p := fun tx hx e => by
        obtain ⟨q, ns, i, rest, seed, h1, _⟩ := tx
        rw [e, h1] at hx; injection hx with hx; injection hx with hx; injection hx with hx; cases hx
      refine ⟨_, rfl, p, 8, rfl, t6, by decide, by decide, fun kind H7 k0 k1 o7 t7 => ?_⟩
      have hl7 := o7 _ _ hl6 (by simpa using nlp t6 hl6)
      have O7 := O6.off t6 o7
      refine ⟨_, rfl, _, rfl, l, _, rfl, .inl (SqL.of hl7), p, _, rfl, t7, (by simp only [List.length_cons]; omega), (by simp only [List.length_cons]; omega), fun place H8 p0 p1 o8 t8 => ?_⟩
      have hl8 := o8 _ _ hl7 (by simpa using nlp t7 hl7)
      have O8 := O7.off t7 o8
      obtain ⟨j, rfl⟩ : ∃ j : Nat, place = (j : Int) := ⟨place.toNat, by omega⟩
      have hj : j < (V.str name :: xs).length := by omega
      have pv0 : ∀ x ∈ V.str name :: xs, PV H8 x := by
        intro x hx
        rcases List.mem_cons.mp hx with rfl | hx
        · exact .inl (.inr ⟨_, rfl, (show ∀ k ∈ names14, PyData.strOk k = true by decide +kernel) _ hname⟩)
        · exact .inl (hpf x hx)
      have fv0 : FV (V.str name :: xs) := fun k hk => by
        have : name = k := by simpa using hk
        subst this; exact .inr (names_look _ hname)
      -- the parts are changed
      refine ⟨fun σ H' => ∃ l' xs' x7 x8, σ = [some (.ref a), some (.ref p), some (.int (0 + (i : Int))), some (.ref l'), some (.ref o), some (.int kind), some (.int (j : Int)), x7, x8] ∧ TapeAt K H' p ∧ OT H' e t o ∧ H' l' = some (.lst xs') ∧ (∀ x ∈ xs', PV H' x) ∧ FV xs' ∧ xs'.length ≤ 20 ∧ l' ≠ p, ?_, ?_⟩
      · refine ⟨_, rfl, rfl, _, rfl, ite2 (fun _ => ?_) (fun _ => ⟨_, rfl, rfl, _, rfl, ite2 (fun _ => ?_) (fun _ => ⟨_, rfl, rfl, _, rfl, ite2 (fun _ => ?_) (fun _ => ?_)⟩)⟩)⟩
        · -- parts[:place] + parts[place + 1:]
          refine ⟨_, rfl, _, rfl, _, rfl, l, _, rfl, SqL.of hl8, fun c hc => ?_⟩
          have e1 : cutV (V.str name :: xs) none (some (j : Int)) = (V.str name :: xs).take j := cut_take (Nat.le_of_lt hj)
          rw [e1]
          have s1 := same_new (o := .lst ((V.str name :: xs).take j)) hc
          have hc1 : (upd H8 c (.lst ((V.str name :: xs).take j))) c = some (.lst ((V.str name :: xs).take j)) := upd_same
          generalize upd H8 c (.lst ((V.str name :: xs).take j)) = H9 at s1 hc1
          refine ⟨_, rfl, _, rfl, _, _, rfl, rfl, _, rfl, l, _, rfl, SqL.of (s1 _ _ hl8), fun c2 hc2 => ?_⟩
          have e2 : cutV (V.str name :: xs) (some ((j : Int) + 1)) none = (V.str name :: xs).drop (j + 1) := by
            have := cut_drop (xs := V.str name :: xs) (n := j + 1) hj
            rw [show (((j + 1 : Nat)) : Int) = (j : Int) + 1 by omega] at this
            exact this
          rw [e2]
          have s2 := same_new (o := .lst ((V.str name :: xs).drop (j + 1))) hc2
          have hc2' : (upd H9 c2 (.lst ((V.str name :: xs).drop (j + 1)))) c2 = some (.lst ((V.str name :: xs).drop (j + 1))) := upd_same
          generalize upd H9 c2 (.lst ((V.str name :: xs).drop (j + 1))) = H10 at s2 hc2'
          refine ⟨c, c2, _, _, rfl, rfl, s2 _ _ hc1, hc2', Nat.le_of_lt (small1000 (by rw [List.length_take, List.length_drop]; simp only [List.length_cons]; omega)), fun c3 hc3 => ?_⟩
          have s3 := same_new (o := .lst ((V.str name :: xs).take j ++ (V.str name :: xs).drop (j + 1))) hc3
          have s := (s1.trans s2).trans s3
          refine ⟨c3, _, _, _, rfl, t8.same s, O8.same s, upd_same, fun x hx => ?_, ?_, ?_, fun e => by obtain ⟨x, hx⟩ := (t8.same (s1.trans s2)).lst; rw [e, hx] at hc3; cases hc3⟩
          · have : x ∈ V.str name :: xs := by
              rcases List.mem_append.mp hx with hx | hx
              · exact List.mem_of_mem_take hx
              · exact List.mem_of_mem_drop hx
            exact (pv0 x this).same s
          · intro k hk
            cases j with
            | zero =>
              have hk' : xs[0]? = some (.str k) := by simpa using hk
              obtain ⟨i, hi⟩ := hint _ hk'
              cases hi
            | succ j =>
              exact fv0 k (by simpa using hk)
          · rw [List.length_append, List.length_take, List.length_drop]; simp only [List.length_cons]; omega
        · -- parts + [others[..]]
          refine ⟨_, rfl, _, rfl, _, rfl, p, 9, rfl, t8, by decide, by decide, fun r H9 r0 r1 o9 t9 => ?_⟩
          have hr9 : r.toNat < (oth e t).length := by show r.toNat < 9; omega
          have O9 := O8.off t8 o9
          have hmem : (oth e t)[r.toNat] ∈ oth e t := List.getElem_mem hr9
          refine ⟨o, _, _, (oth e t)[r.toNat], rfl, rfl, SqL.of O9.ho, ?_, ?_⟩
          · have := atI_nat (List.getElem?_eq_getElem hr9)
            rw [show ((r.toNat : Nat) : Int) = r by omega] at this
            exact this
          generalize (oth e t)[r.toNat] = v at hmem
          refine nil_ ⟨by show 1 ≤ sizeLine; decide, fun c hc => ?_⟩
          have s1 := same_new (o := .lst [v]) hc
          have hc1 : (upd H9 c (.lst [v])) c = some (.lst [v]) := upd_same
          generalize upd H9 c (.lst [v]) = H10 at s1 hc1
          have hl9 := o9 _ _ hl8 (by simpa using nlp t8 hl8)
          refine ⟨l, c, _, _, rfl, rfl, s1 _ _ hl9, hc1, Nat.le_of_lt (small1000 (by simp only [List.length_cons, List.length_nil]; omega)), fun c3 hc3 => ?_⟩
          have s3 := same_new (o := .lst ((V.str name :: xs) ++ [v])) hc3
          have s := s1.trans s3
          refine ⟨c3, _, _, _, rfl, t9.same s, O9.same s, upd_same, fun x hx => ?_, ?_, ?_, fun e => by obtain ⟨x, hx⟩ := (t9.same s1).lst; rw [e, hx] at hc3; cases hc3⟩
          · rcases List.mem_append.mp hx with hx | hx
            · exact ((pv0 x hx).off t8 o9).same s
            · rw [List.mem_singleton.mp hx]; exact (oth_pv O9 v hmem).same s
          · intro k hk
            exact fv0 k (by simpa using hk)
          · rw [List.length_append]; simp only [List.length_cons, List.length_nil]; omega
        · -- parts[place] = others[..]
          refine ⟨_, rfl, _, rfl, p, 9, rfl, t8, by decide, by decide, fun r H9 r0 r1 o9 t9 => ?_⟩
          have hr9 : r.toNat < (oth e t).length := by show r.toNat < 9; omega
          have O9 := O8.off t8 o9
          have hmem : (oth e t)[r.toNat] ∈ oth e t := List.getElem_mem hr9
          refine ⟨o, _, _, (oth e t)[r.toNat], rfl, rfl, SqL.of O9.ho, ?_, ?_⟩
          · have := atI_nat (List.getElem?_eq_getElem hr9)
            rw [show ((r.toNat : Nat) : Int) = r by omega] at this
            exact this
          generalize (oth e t)[r.toNat] = v at hmem
          have hl9 := o9 _ _ hl8 (by simpa using nlp t8 hl8)
          refine ⟨_, rfl, _, rfl, l, _, _, j, rfl, rfl, hl9, Evl.ixN_nat hj, ?_⟩
          have ne1 : ∀ x, PV H9 x → PV (upd H9 l (.lst ((V.str name :: xs).set j v))) x := by
            intro x h
            rcases h with h | h | h | ⟨a, g1, g2⟩ | ⟨t, g1, g2⟩
            · exact .inl h
            · exact .inr (.inl h)
            · exact .inr (.inr (.inl h))
            · exact .inr (.inr (.inr (.inl ⟨a, g1, by rw [upd_ne (ne_of g2 hl9 (by intro z; cases z))]; exact g2⟩)))
            · exact .inr (.inr (.inr (.inr ⟨t, g1, by rw [upd_ne (ne_of g2 hl9 (by intro z; cases z))]; exact g2⟩)))
          refine ⟨l, _, _, _, rfl, tape_lstU t9 hl9 (nlp t9 hl9), ⟨?_, ?_, ?_⟩, upd_same, fun x hx => ?_, ?_, ?_, nlp t9 hl9⟩
          · rw [upd_ne (ne_of O9.he hl9 (by intro z; cases z))]; exact O9.he
          · rw [upd_ne (ne_of O9.ht hl9 (by intro z; cases z))]; exact O9.ht
          · rw [upd_ne (ne_of O9.ho hl9 (by intro z; cases z))]; exact O9.ho
          · rcases List.mem_or_eq_of_mem_set hx with hx | rfl
            · exact ne1 _ ((pv0 x hx).off t8 o9)
            · exact ne1 _ (oth_pv O9 _ hmem)
          · intro k hk
            cases j with
            | zero =>
              have : v = .str k := by simpa using hk
              exact oth_fv hmem k this
            | succ j => exact fv0 k (by simpa using hk)
          · rw [List.length_set]; simp only [List.length_cons]; omega
        · exact ⟨l, _, _, _, rfl, t8, O8, hl8, pv0, fv0, by simp only [List.length_cons]; omega, nlp t8 hl8⟩
      · rintro σ H9 ⟨l', xs', x7', x8', rfl, t9, O9, hl9, pv9, fv9, len9, nl'⟩
        -- due = _law_due(parts)
        obtain ⟨ds, ha, hok⟩ := pvs_dp (K := K) pv9
        have hf := fv_ok ha fv9
        refine ⟨_, rfl, l', xs', ds, rfl, hl9, ha, len9, hok, hf, fun H10 s10 => ?_⟩
        have hl10 := s10 _ _ hl9
        -- told = is_command(tuple(parts))
        refine ⟨_, rfl, l', _, rfl, .inl ⟨SqL.of hl10, fun q1 hq1 => ?_⟩⟩
        have s11 := same_new (o := .tup xs') hq1
        have hq11 : (upd H10 q1 (.tup xs')) q1 = some (.tup xs') := upd_same
        generalize upd H10 q1 (.tup xs') = H11 at s11 hq11
        have ha11 := dpAll_same (s10.trans s11) _ _ ha
        refine nil_ ⟨.ref q1, .tuple ds, rfl, .tup (SqT.of hq11) ha11, hf, fun H12 s12 => ?_⟩
        have hl12 := s12 _ _ (s11 _ _ hl10)
        have s92 := (s10.trans s11).trans s12
        -- if not isinstance(told, bool) or told != due or is_command(list(parts)) is not False
        refine ⟨_, rfl, _, _, _, _, true, rfl, .ty "bool", .base (.bl _), kit_ty (by decide +kernel), _, rfl, ?_⟩
        refine iteF ⟨_, rfl, _, rfl, rfl, _, rfl, ?_⟩
        rw [decide_eq_true (show V.bl (cmdD (.tuple ds)) = V.bl (cmdD (.tuple ds)) from rfl)]
        refine iteF ⟨_, rfl, l', _, rfl, .inl (SqL.of hl12), fun q2 hq2 => ?_⟩
        have s13 := same_new (o := .lst xs') hq2
        have hq13 : (upd H12 q2 (.lst xs')) q2 = some (.lst xs') := upd_same
        generalize upd H12 q2 (.lst xs') = H13 at s13 hq13
        have ha13 := dpAll_same (s92.trans s13) _ _ ha
        refine nil_ ⟨.ref q2, .list ds, rfl, .lst (SqL.of hq13) ha13, trivial, fun H14 s14 => ⟨false, false, rfl, rfl, _, rfl, iteF ?_⟩⟩
        have s94 := (s92.trans s13).trans s14
        have t14 := t9.same s94
        have O14 := O9.same s94
        -- if is_command(others[_law_next(tape, 9)]) is not False
        refine ⟨_, rfl, _, rfl, p, 9, rfl, t14, by decide, by decide, fun r H15 r0 r1 o15 t15 => ?_⟩
        have hr9 : r.toNat < (oth e t).length := by show r.toNat < 9; omega
        have O15 := O14.off t14 o15
        have hmem : (oth e t)[r.toNat] ∈ oth e t := List.getElem_mem hr9
        refine ⟨o, _, _, (oth e t)[r.toNat], rfl, rfl, SqL.of O15.ho, ?_, ?_⟩
        · have := atI_nat (List.getElem?_eq_getElem hr9)
          rw [show ((r.toNat : Nat) : Int) = r by omega] at this
          exact this
        obtain ⟨dv, hdv, _, hc, hfv⟩ := pv_dp (K := K) (oth_pv O15 _ hmem)
        generalize (oth e t)[r.toNat] = v at hmem hdv
        refine nil_ ⟨v, dv, rfl, hdv, hfv, fun H16 s16 => ?_⟩
        rw [hc]
        refine ⟨false, false, rfl, rfl, _, rfl, iteF ?_⟩
        have t16 := t15.same s16
        have hl14 := s94 _ _ hl9
        have hl16 := s16 _ _ (o15 _ _ hl14 (by simpa using nl'))
        cases hb : cmdD (.tuple ds) with
        | false => exact ⟨_, rfl, false, rfl, iteF (iteF ⟨_, rfl, false, rfl, iteF (iteF ⟨_, _, _, _, _, _, _, rfl, t16⟩)⟩)⟩
        | true =>
          obtain ⟨k, fs, ns, rfl, hlook, hfl, hps⟩ := cmd_true hb
          obtain ⟨x0, ys, rfl, a0, as⟩ := dpAll_cons ha
          cases a0
          refine ⟨_, rfl, true, rfl, iteT ⟨_, rfl, l', _, _, _, rfl, rfl, SqL.of hl16, atI_nat (j := 0) rfl, rfl, _, rfl, ?_⟩⟩
          by_cases e1 : k = "flush"
          · subst e1
            rw [str_eqT]
            refine iteT ⟨_, rfl, l', _, rfl, .inl ⟨SqL.of hl16, fun q hq => ?_⟩⟩
            have s17 := same_new (o := .tup (.str "flush" :: ys)) hq
            have hq17 : (upd H16 q (.tup (.str "flush" :: ys))) q = some (.tup (.str "flush" :: ys)) := upd_same
            generalize upd H16 q (.tup (.str "flush" :: ys)) = H17 at s17 hq17
            refine nil_ ⟨q, "flush", ys, rfl, SqT.of hq17, fun _ => ⟨rfl, _, rfl, ?_⟩, fun h => absurd rfl h⟩
            rw [show decide (V.non = V.non) = true from decide_eq_true rfl]
            refine iteF ⟨_, rfl, true, rfl, iteT ⟨_, rfl, l', _, _, _, rfl, rfl, SqL.of (s17 _ _ hl16), atI_nat (j := 0) rfl, rfl, _, rfl, ?_⟩⟩
            rw [str_eqT]
            exact iteF (iteF ⟨_, _, _, _, _, _, _, rfl, t16.same s17⟩)
          · rw [str_eqF e1]
            refine iteF (iteF ⟨_, rfl, true, rfl, iteT ⟨_, rfl, l', _, _, _, rfl, rfl, SqL.of hl16, atI_nat (j := 0) rfl, rfl, _, rfl, ?_⟩⟩)
            rw [str_eqF e1]
            obtain ⟨ns', rfl⟩ : ∃ ns' : List Str, ns = ("namespace" : Str) :: ns' := by
              have := (show ∀ p ∈ partsT, ¬ p.1 = "flush" → p.2.head? = some ("namespace" : Str) by decide +kernel) _ (PySem.mem_of_lookup hlook) e1
              cases ns with
              | nil => cases this
              | cons n ns => exact ⟨ns, by have h2 : some n = some ("namespace" : Str) := this; cases h2; rfl⟩
            cases fs with
            | nil => simp at hfl
            | cons d1 fs' =>
              have ep : partsD (("namespace" : Str) :: ns') (d1 :: fs') = (betwD 1 8 d1 && partsD ns' fs') := by
                unfold partsD
                rw [List.zip_cons_cons, List.all_cons]
                congr 1
              rw [ep, Bool.and_eq_true] at hps
              obtain ⟨x1, ys', rfl, a1, as'⟩ := dpAll_cons as
              obtain ⟨i1, rfl, rfl⟩ : ∃ i, x1 = .int i ∧ d1 = .int i := by
                have := hps.1
                cases a1 <;> first | exact ⟨_, rfl, rfl⟩ | cases this
              refine iteT ⟨_, rfl, l', _, rfl, .inl ⟨SqL.of hl16, fun q hq => ?_⟩⟩
              have s17 := same_new (o := .tup (.str k :: .int i1 :: ys')) hq
              have hq17 : (upd H16 q (.tup (.str k :: .int i1 :: ys'))) q = some (.tup (.str k :: .int i1 :: ys')) := upd_same
              generalize upd H16 q (.tup (.str k :: .int i1 :: ys')) = H17 at s17 hq17
              refine nil_ ⟨q, k, _, rfl, SqT.of hq17, fun h => absurd h e1, fun _ => ⟨.int i1, rfl, _, rfl, l', _, _, _, rfl, rfl, SqL.of (s17 _ _ hl16), atI_nat (j := 1) rfl, rfl, _, rfl, ?_⟩⟩
              rw [decide_eq_true (show V.int i1 = V.int i1 from rfl)]
              exact iteF ⟨_, _, _, _, _, _, _, rfl, t16.same s17⟩
    · rintro σ H' ⟨x2, x3, x4, x5, x6, x7, x8, rfl, _⟩
      exact kk _
end
end Sg

set_option Elab.async false
set_option linter.all false
set_option maxRecDepth 100000
set_option maxHeartbeats 8000000
namespace Sg
open PySem PySem.Spec PyProof.Rows L2
theorem all_mk {l : PySem.W.OpenLaw} {w : World} {K : PySem.W.Frag} {h : Heap} {mg : Str → Option Value} {fa fW fAL fB fCi fNo fIp fN fNu fPa fIn fSi fLa fDu fL aP aT0 aT1 aT2 aT3 aT4 aT5 aT6 aT7 aT8 aT9 aT10 aT11 aT12 aT13 : Addr} (X : K.In h) (G : h.Ns mainGlobals mg) (hfa : mg "law" = some (.ref fa))
    {odW anW odAL anAL odB anB odCi anCi odNo anNo odIp anIp odN anN odNu anNu odPa anPa odIn anIn odSi anSi odLa anLa odDu anDu odL anL dT0 dT1 dT2 dT3 dT4 dT5 dT6 dT7 dT8 dT9 dT10 dT11 dT12 dT13 : Option Addr} {slW slAL slB slCi slNo slIp slN slNu slPa slIn slSi slLa slDu slL sT0 sT1 sT2 sT3 sT4 sT5 sT6 sT7 sT8 sT9 sT10 sT11 sT12 sT13 : Array (Option Value)} {ocW kVW dcW pmW cdW ctW ocAL kVAL dcAL pmAL cdAL ctAL ocB kVB dcB pmB cdB ctB ocCi kVCi dcCi pmCi cdCi ctCi ocNo kVNo dcNo pmNo cdNo ctNo ocIp kVIp dcIp pmIp cdIp ctIp ocN kVN dcN pmN cdN ctN ocNu kVNu dcNu pmNu cdNu ctNu ocPa kVPa dcPa pmPa cdPa ctPa ocIn kVIn dcIn pmIn cdIn ctIn ocSi kVSi dcSi pmSi cdSi ctSi ocLa kVLa dcLa pmLa cdLa ctLa ocDu kVDu dcDu pmDu cdDu ctDu ocL kVL dcL pmL cdL ctL : Value} {tHOSTS tNAMESPACES tPLACES uT0_0 uT0_1 uT1_0 uT2_0 uT2_1 uT2_2 uT3_0 uT3_1 uT4_0 uT4_1 uT5_0 uT6_0 uT6_1 uT6_2 uT7_0 uT7_1 uT8_0 uT9_0 uT10_0 uT10_1 uT11_0 uT12_0 uT12_1 : Tok} {nF nT0 nT1 nT2 nT3 nT4 nT5 nT6 nT7 nT8 nT9 nT10 nT11 nT12 nT13 : Nat} {esF : Array DictEntry}
    (aW : PySem.W.nsIn K mainGlobals "is_whole" = some (some (.ref fW)))
    (lW : K.lookup fW = some ⟨ocW, odW, .func (PySem.W.fnOf "is_whole" "is_whole" (defArgs sWhole) (defBody sWhole) (defScope sWhole) .none kVW dcW pmW anW cdW ctW), slW⟩)
    (cW : PySem.W.codeIn K cdW "is_whole" = true)
    (kW : PySem.W.keepIn K (.ref fW) = true)
    (aAL : PySem.W.nsIn K mainGlobals "is_at_least" = some (some (.ref fAL)))
    (lAL : K.lookup fAL = some ⟨ocAL, odAL, .func (PySem.W.fnOf "is_at_least" "is_at_least" (defArgs sAtLeast) (defBody sAtLeast) (defScope sAtLeast) .none kVAL dcAL pmAL anAL cdAL ctAL), slAL⟩)
    (cAL : PySem.W.codeIn K cdAL "is_at_least" = true)
    (kAL : PySem.W.keepIn K (.ref fAL) = true)
    (aB : PySem.W.nsIn K mainGlobals "is_between" = some (some (.ref fB)))
    (lB : K.lookup fB = some ⟨ocB, odB, .func (PySem.W.fnOf "is_between" "is_between" (defArgs sBetween) (defBody sBetween) (defScope sBetween) .none kVB dcB pmB anB cdB ctB), slB⟩)
    (cB : PySem.W.codeIn K cdB "is_between" = true)
    (kB : PySem.W.keepIn K (.ref fB) = true)
    (aCi : PySem.W.nsIn K mainGlobals "is_command" = some (some (.ref fCi)))
    (lCi : K.lookup fCi = some ⟨ocCi, odCi, .func (PySem.W.fnOf "is_command" "is_command" (defArgs sIsCmd) (defBody sIsCmd) (defScope sIsCmd) .none kVCi dcCi pmCi anCi cdCi ctCi), slCi⟩)
    (cCi : PySem.W.codeIn K cdCi "is_command" = true)
    (kCi : PySem.W.keepIn K (.ref fCi) = true)
    (aNo : PySem.W.nsIn K mainGlobals "namespace_of" = some (some (.ref fNo)))
    (lNo : K.lookup fNo = some ⟨ocNo, odNo, .func (PySem.W.fnOf "namespace_of" "namespace_of" (defArgs sNsOf) (defBody sNsOf) (defScope sNsOf) .none kVNo dcNo pmNo anNo cdNo ctNo), slNo⟩)
    (cNo : PySem.W.codeIn K cdNo "namespace_of" = true)
    (kNo : PySem.W.keepIn K (.ref fNo) = true)
    (aIp : PySem.W.nsIn K mainGlobals "_is_part" = some (some (.ref fIp)))
    (lIp : K.lookup fIp = some ⟨ocIp, odIp, .func (PySem.W.fnOf "_is_part" "_is_part" (defArgs sIsPart) (defBody sIsPart) (defScope sIsPart) .none kVIp dcIp pmIp anIp cdIp ctIp), slIp⟩)
    (cIp : PySem.W.codeIn K cdIp "_is_part" = true)
    (kIp : PySem.W.keepIn K (.ref fIp) = true)
    (aN : PySem.W.nsIn K mainGlobals "_law_next" = some (some (.ref fN)))
    (lN : K.lookup fN = some ⟨ocN, odN, .func (PySem.W.fnOf "_law_next" "_law_next" (defArgs sNext) (defBody sNext) (defScope sNext) .none kVN dcN pmN anN cdN ctN), slN⟩)
    (cN : PySem.W.codeIn K cdN "_law_next" = true)
    (kN : PySem.W.keepIn K (.ref fN) = true)
    (aNu : PySem.W.nsIn K mainGlobals "_law_number" = some (some (.ref fNu)))
    (lNu : K.lookup fNu = some ⟨ocNu, odNu, .func (PySem.W.fnOf "_law_number" "_law_number" (defArgs sNumber) (defBody sNumber) (defScope sNumber) .none kVNu dcNu pmNu anNu cdNu ctNu), slNu⟩)
    (cNu : PySem.W.codeIn K cdNu "_law_number" = true)
    (kNu : PySem.W.keepIn K (.ref fNu) = true)
    (aPa : PySem.W.nsIn K mainGlobals "_law_parts" = some (some (.ref fPa)))
    (lPa : K.lookup fPa = some ⟨ocPa, odPa, .func (PySem.W.fnOf "_law_parts" "_law_parts" (defArgs sParts) (defBody sParts) (defScope sParts) .none kVPa dcPa pmPa anPa cdPa ctPa), slPa⟩)
    (cPa : PySem.W.codeIn K cdPa "_law_parts" = true)
    (kPa : PySem.W.keepIn K (.ref fPa) = true)
    (aIn : PySem.W.nsIn K mainGlobals "_law_integer" = some (some (.ref fIn)))
    (lIn : K.lookup fIn = some ⟨ocIn, odIn, .func (PySem.W.fnOf "_law_integer" "_law_integer" (defArgs sInteger) (defBody sInteger) (defScope sInteger) .none kVIn dcIn pmIn anIn cdIn ctIn), slIn⟩)
    (cIn : PySem.W.codeIn K cdIn "_law_integer" = true)
    (kIn : PySem.W.keepIn K (.ref fIn) = true)
    (aSi : PySem.W.nsIn K mainGlobals "_law_size" = some (some (.ref fSi)))
    (lSi : K.lookup fSi = some ⟨ocSi, odSi, .func (PySem.W.fnOf "_law_size" "_law_size" (defArgs sSize) (defBody sSize) (defScope sSize) .none kVSi dcSi pmSi anSi cdSi ctSi), slSi⟩)
    (cSi : PySem.W.codeIn K cdSi "_law_size" = true)
    (kSi : PySem.W.keepIn K (.ref fSi) = true)
    (aLa : PySem.W.nsIn K mainGlobals "_law_last" = some (some (.ref fLa)))
    (lLa : K.lookup fLa = some ⟨ocLa, odLa, .func (PySem.W.fnOf "_law_last" "_law_last" (defArgs sLast) (defBody sLast) (defScope sLast) .none kVLa dcLa pmLa anLa cdLa ctLa), slLa⟩)
    (cLa : PySem.W.codeIn K cdLa "_law_last" = true)
    (kLa : PySem.W.keepIn K (.ref fLa) = true)
    (aDu : PySem.W.nsIn K mainGlobals "_law_due" = some (some (.ref fDu)))
    (lDu : K.lookup fDu = some ⟨ocDu, odDu, .func (PySem.W.fnOf "_law_due" "_law_due" (defArgs sDue) (defBody sDue) (defScope sDue) .none kVDu dcDu pmDu anDu cdDu ctDu), slDu⟩)
    (cDu : PySem.W.codeIn K cdDu "_law_due" = true)
    (kDu : PySem.W.keepIn K (.ref fDu) = true)
    (aL : PySem.W.nsIn K mainGlobals "law" = some (some (.ref fL)))
    (lL : K.lookup fL = some ⟨ocL, odL, .func (PySem.W.fnOf "law" "law" (defArgs sLaw) (defBody sLaw) (defScope sLaw) .none kVL dcL pmL anL cdL ctL), slL⟩)
    (cL : PySem.W.codeIn K cdL "law" = true)
    (kL : PySem.W.keepIn K (.ref fL) = true)
    (gHOSTS : PySem.W.nsIn K mainGlobals "HOSTS" = some (some (.int 4 tHOSTS)))
    (gNAMESPACES : PySem.W.nsIn K mainGlobals "NAMESPACES" = some (some (.int 8 tNAMESPACES)))
    (gPLACES : PySem.W.nsIn K mainGlobals "PLACES" = some (some (.int 64 tPLACES)))
    (gPARTS : PySem.W.nsIn K mainGlobals "PARTS" = some (some (.ref aP)))
    (lPARTS : K.lookup aP = some ⟨.type "dict", none, .dict esF nF, #[]⟩)
    (kPARTS : PySem.W.KeysLit w.params esF.toList)
    (wPARTS : (aP == sysModules) = false)
    (ePARTS : PySem.W.nsIn K aP "" = some none)
    (en0 : PySem.W.nsIn K aP "make" = some (some (.ref aT0)))
    (lT0 : K.lookup aT0 = some ⟨.type "tuple", dT0, .seq #[.str "namespace" uT0_0, .str "size" uT0_1] nT0, sT0⟩)
    (en1 : PySem.W.nsIn K aP "remove" = some (some (.ref aT1)))
    (lT1 : K.lookup aT1 = some ⟨.type "tuple", dT1, .seq #[.str "namespace" uT1_0] nT1, sT1⟩)
    (en2 : PySem.W.nsIn K aP "write" = some (some (.ref aT2)))
    (lT2 : K.lookup aT2 = some ⟨.type "tuple", dT2, .seq #[.str "namespace" uT2_0, .str "place" uT2_1, .str "value" uT2_2] nT2, sT2⟩)
    (en3 : PySem.W.nsIn K aP "trim" = some (some (.ref aT3)))
    (lT3 : K.lookup aT3 = some ⟨.type "tuple", dT3, .seq #[.str "namespace" uT3_0, .str "place" uT3_1] nT3, sT3⟩)
    (en4 : PySem.W.nsIn K aP "read" = some (some (.ref aT4)))
    (lT4 : K.lookup aT4 = some ⟨.type "tuple", dT4, .seq #[.str "namespace" uT4_0, .str "place" uT4_1] nT4, sT4⟩)
    (en5 : PySem.W.nsIn K aP "snap" = some (some (.ref aT5)))
    (lT5 : K.lookup aT5 = some ⟨.type "tuple", dT5, .seq #[.str "namespace" uT5_0] nT5, sT5⟩)
    (en6 : PySem.W.nsIn K aP "view" = some (some (.ref aT6)))
    (lT6 : K.lookup aT6 = some ⟨.type "tuple", dT6, .seq #[.str "namespace" uT6_0, .str "snapshot" uT6_1, .str "place" uT6_2] nT6, sT6⟩)
    (en7 : PySem.W.nsIn K aP "drop" = some (some (.ref aT7)))
    (lT7 : K.lookup aT7 = some ⟨.type "tuple", dT7, .seq #[.str "namespace" uT7_0, .str "snapshot" uT7_1] nT7, sT7⟩)
    (en8 : PySem.W.nsIn K aP "register" = some (some (.ref aT8)))
    (lT8 : K.lookup aT8 = some ⟨.type "tuple", dT8, .seq #[.str "namespace" uT8_0] nT8, sT8⟩)
    (en9 : PySem.W.nsIn K aP "leave" = some (some (.ref aT9)))
    (lT9 : K.lookup aT9 = some ⟨.type "tuple", dT9, .seq #[.str "namespace" uT9_0] nT9, sT9⟩)
    (en10 : PySem.W.nsIn K aP "reserve" = some (some (.ref aT10)))
    (lT10 : K.lookup aT10 = some ⟨.type "tuple", dT10, .seq #[.str "namespace" uT10_0, .str "way" uT10_1] nT10, sT10⟩)
    (en11 : PySem.W.nsIn K aP "release" = some (some (.ref aT11)))
    (lT11 : K.lookup aT11 = some ⟨.type "tuple", dT11, .seq #[.str "namespace" uT11_0] nT11, sT11⟩)
    (en12 : PySem.W.nsIn K aP "preempt" = some (some (.ref aT12)))
    (lT12 : K.lookup aT12 = some ⟨.type "tuple", dT12, .seq #[.str "namespace" uT12_0, .str "victim" uT12_1] nT12, sT12⟩)
    (en13 : PySem.W.nsIn K aP "flush" = some (some (.ref aT13)))
    (lT13 : K.lookup aT13 = some ⟨.type "tuple", dT13, .seq #[] nT13, sT13⟩)
    (z_isinstance : PySem.W.nsIn K mainGlobals "isinstance" = some none)
    (z_int : PySem.W.nsIn K mainGlobals "int" = some none)
    (z_bool : PySem.W.nsIn K mainGlobals "bool" = some none)
    (z_str : PySem.W.nsIn K mainGlobals "str" = some none)
    (z_tuple : PySem.W.nsIn K mainGlobals "tuple" = some none)
    (z_list : PySem.W.nsIn K mainGlobals "list" = some none)
    (z_len : PySem.W.nsIn K mainGlobals "len" = some none)
    (z_all : PySem.W.nsIn K mainGlobals "all" = some none)
    (z_zip : PySem.W.nsIn K mainGlobals "zip" = some none)
    (z_abs : PySem.W.nsIn K mainGlobals "abs" = some none)
    (z_sorted : PySem.W.nsIn K mainGlobals "sorted" = some none)
    (z_range : PySem.W.nsIn K mainGlobals "range" = some none)
    : ∃ fd : FuncData, (∀ (s : Shared) (v : Value), BindsTo s fd ⟨[v], []⟩ [("script", v)]) ∧ ∀ base : Heap, K.In base → base.Ns mainGlobals mg → FnOk l.prog w K mg base CX0 5 fa fd ["script"] (spLaw K) := by
  have e := hfa.symm.trans (PySem.W.mg_of X G aL)
  cases e
  have B : LB mg := ⟨PySem.W.mg_none_of X G z_len, PySem.W.mg_none_of X G z_abs, PySem.W.mg_none_of X G z_int, PySem.W.mg_none_of X G z_list, PySem.W.mg_none_of X G z_tuple, PySem.W.mg_none_of X G z_sorted, PySem.W.mg_none_of X G z_range⟩
  have Dx : Bds mg fW := ⟨PySem.W.mg_none_of X G z_isinstance, PySem.W.mg_none_of X G z_int, PySem.W.mg_none_of X G z_bool, PySem.W.mg_none_of X G z_str, PySem.W.mg_none_of X G z_tuple, PySem.W.mg_none_of X G z_list, PySem.W.mg_of X G aW⟩
  have R : PX K w mg aP := by
    refine ⟨PySem.W.mg_of X G gPARTS, ⟨_, _, lPARTS, kPARTS, wPARTS⟩, fun p hp => ?_, ePARTS, ⟨_, PySem.W.mg_of X G gHOSTS⟩, ⟨_, PySem.W.mg_of X G gNAMESPACES⟩, ⟨_, PySem.W.mg_of X G gPLACES⟩⟩
    simp only [partsT, List.mem_cons, List.not_mem_nil, or_false] at hp
    rcases hp with rfl | rfl | rfl | rfl | rfl | rfl | rfl | rfl | rfl | rfl | rfl | rfl | rfl | rfl
    · exact ⟨aT0, .ref aT0, ⟨_, _, _, lPARTS, kPARTS, en0, rfl⟩, en0, fun H => (.inr ⟨_, _, _, lT0, rfl, rfl, (show (2 : Nat) ≤ sizeLine by decide), (.cons ⟨_, rfl⟩ (.cons ⟨_, rfl⟩ .nil))⟩)⟩
    · exact ⟨aT1, .ref aT1, ⟨_, _, _, lPARTS, kPARTS, en1, rfl⟩, en1, fun H => (.inr ⟨_, _, _, lT1, rfl, rfl, (show (1 : Nat) ≤ sizeLine by decide), (.cons ⟨_, rfl⟩ .nil)⟩)⟩
    · exact ⟨aT2, .ref aT2, ⟨_, _, _, lPARTS, kPARTS, en2, rfl⟩, en2, fun H => (.inr ⟨_, _, _, lT2, rfl, rfl, (show (3 : Nat) ≤ sizeLine by decide), (.cons ⟨_, rfl⟩ (.cons ⟨_, rfl⟩ (.cons ⟨_, rfl⟩ .nil)))⟩)⟩
    · exact ⟨aT3, .ref aT3, ⟨_, _, _, lPARTS, kPARTS, en3, rfl⟩, en3, fun H => (.inr ⟨_, _, _, lT3, rfl, rfl, (show (2 : Nat) ≤ sizeLine by decide), (.cons ⟨_, rfl⟩ (.cons ⟨_, rfl⟩ .nil))⟩)⟩
    · exact ⟨aT4, .ref aT4, ⟨_, _, _, lPARTS, kPARTS, en4, rfl⟩, en4, fun H => (.inr ⟨_, _, _, lT4, rfl, rfl, (show (2 : Nat) ≤ sizeLine by decide), (.cons ⟨_, rfl⟩ (.cons ⟨_, rfl⟩ .nil))⟩)⟩
    · exact ⟨aT5, .ref aT5, ⟨_, _, _, lPARTS, kPARTS, en5, rfl⟩, en5, fun H => (.inr ⟨_, _, _, lT5, rfl, rfl, (show (1 : Nat) ≤ sizeLine by decide), (.cons ⟨_, rfl⟩ .nil)⟩)⟩
    · exact ⟨aT6, .ref aT6, ⟨_, _, _, lPARTS, kPARTS, en6, rfl⟩, en6, fun H => (.inr ⟨_, _, _, lT6, rfl, rfl, (show (3 : Nat) ≤ sizeLine by decide), (.cons ⟨_, rfl⟩ (.cons ⟨_, rfl⟩ (.cons ⟨_, rfl⟩ .nil)))⟩)⟩
    · exact ⟨aT7, .ref aT7, ⟨_, _, _, lPARTS, kPARTS, en7, rfl⟩, en7, fun H => (.inr ⟨_, _, _, lT7, rfl, rfl, (show (2 : Nat) ≤ sizeLine by decide), (.cons ⟨_, rfl⟩ (.cons ⟨_, rfl⟩ .nil))⟩)⟩
    · exact ⟨aT8, .ref aT8, ⟨_, _, _, lPARTS, kPARTS, en8, rfl⟩, en8, fun H => (.inr ⟨_, _, _, lT8, rfl, rfl, (show (1 : Nat) ≤ sizeLine by decide), (.cons ⟨_, rfl⟩ .nil)⟩)⟩
    · exact ⟨aT9, .ref aT9, ⟨_, _, _, lPARTS, kPARTS, en9, rfl⟩, en9, fun H => (.inr ⟨_, _, _, lT9, rfl, rfl, (show (1 : Nat) ≤ sizeLine by decide), (.cons ⟨_, rfl⟩ .nil)⟩)⟩
    · exact ⟨aT10, .ref aT10, ⟨_, _, _, lPARTS, kPARTS, en10, rfl⟩, en10, fun H => (.inr ⟨_, _, _, lT10, rfl, rfl, (show (2 : Nat) ≤ sizeLine by decide), (.cons ⟨_, rfl⟩ (.cons ⟨_, rfl⟩ .nil))⟩)⟩
    · exact ⟨aT11, .ref aT11, ⟨_, _, _, lPARTS, kPARTS, en11, rfl⟩, en11, fun H => (.inr ⟨_, _, _, lT11, rfl, rfl, (show (1 : Nat) ≤ sizeLine by decide), (.cons ⟨_, rfl⟩ .nil)⟩)⟩
    · exact ⟨aT12, .ref aT12, ⟨_, _, _, lPARTS, kPARTS, en12, rfl⟩, en12, fun H => (.inr ⟨_, _, _, lT12, rfl, rfl, (show (2 : Nat) ≤ sizeLine by decide), (.cons ⟨_, rfl⟩ (.cons ⟨_, rfl⟩ .nil))⟩)⟩
    · exact ⟨aT13, .ref aT13, ⟨_, _, _, lPARTS, kPARTS, en13, rfl⟩, en13, fun H => (.inr ⟨_, _, _, lT13, rfl, rfl, (show (0 : Nat) ≤ sizeLine by decide), .nil⟩)⟩
  have FW := fun_mk (st := sWhole) lW cW kW
  have FAL := fun_mk (st := sAtLeast) lAL cAL kAL
  have FB := fun_mk (st := sBetween) lB cB kB
  have FCi := fun_mk (st := sIsCmd) lCi cCi kCi
  have FNo := fun_mk (st := sNsOf) lNo cNo kNo
  have FIp := fun_mk (st := sIsPart) lIp cIp kIp
  have FN := fun_mk (st := sNext) lN cN kN
  have FNu := fun_mk (st := sNumber) lNu cNu kNu
  have FPa := fun_mk (st := sParts) lPa cPa kPa
  have FIn := fun_mk (st := sInteger) lIn cIn kIn
  have FSi := fun_mk (st := sSize) lSi cSi kSi
  have FLa := fun_mk (st := sLast) lLa cLa kLa
  have FDu := fun_mk (st := sDue) lDu cDu kDu
  have FL := fun_mk (st := sLaw) lL cL kL
  have bW := FW.binds (ps := ["value"]) fun _ _ _ _ _ _ us hl => match us, hl with | [_], _ => rfl
  have bAL := FAL.binds (ps := ["value", "low"]) fun _ _ _ _ _ _ us hl => match us, hl with | [_, _], _ => rfl
  have bB := FB.binds (ps := ["value", "low", "high"]) fun _ _ _ _ _ _ us hl => match us, hl with | [_, _, _], _ => rfl
  have bCi := FCi.binds (ps := ["value"]) fun _ _ _ _ _ _ us hl => match us, hl with | [_], _ => rfl
  have bNo := FNo.binds (ps := ["command"]) fun _ _ _ _ _ _ us hl => match us, hl with | [_], _ => rfl
  have bIp := FIp.binds (ps := ["name", "value"]) fun _ _ _ _ _ _ us hl => match us, hl with | [_, _], _ => rfl
  have bN := FN.binds (ps := ["tape", "many"]) fun _ _ _ _ _ _ us hl => match us, hl with | [_, _], _ => rfl
  have bNu := FNu.binds (ps := ["tape", "low", "high"]) fun _ _ _ _ _ _ us hl => match us, hl with | [_, _, _], _ => rfl
  have bPa := FPa.binds (ps := ["tape"]) fun _ _ _ _ _ _ us hl => match us, hl with | [_], _ => rfl
  have bIn := FIn.binds (ps := ["value", "low", "high"]) fun _ _ _ _ _ _ us hl => match us, hl with | [_, _, _], _ => rfl
  have bSi := FSi.binds (ps := ["name"]) fun _ _ _ _ _ _ us hl => match us, hl with | [_], _ => rfl
  have bLa := FLa.binds (ps := ["parts"]) fun _ _ _ _ _ _ us hl => match us, hl with | [_], _ => rfl
  have bDu := FDu.binds (ps := ["parts"]) fun _ _ _ _ _ _ us hl => match us, hl with | [_], _ => rfl
  refine ⟨PySem.W.fnOf "law" "law" (defArgs sLaw) (defBody sLaw) (defScope sLaw) .none kVL dcL pmL anL cdL ctL, fun s v => .of_eq rfl, fun base _ _ => ?_⟩
  have dW := Def.mk (ok_whole (P := l.prog) (wrl := w) (base := base) FW Dx) bW kW (PySem.W.mg_of X G aW)
  have dAL := Def.mk (ok_atLeast (P := l.prog) (wrl := w) (base := base) FAL Dx FW bW) bAL kAL (PySem.W.mg_of X G aAL)
  have dB := Def.mk (ok_between (P := l.prog) (wrl := w) (base := base) FB Dx FW bW) bB kB (PySem.W.mg_of X G aB)
  have dIp := Def.mk (ok_isPart FIp Dx R dW dAL dB) bIp kIp (PySem.W.mg_of X G aIp)
  have dCi := Def.mk (ok_isCmd FCi Dx R (PySem.W.mg_none_of X G z_len) (PySem.W.mg_none_of X G z_all) (PySem.W.mg_none_of X G z_zip) dIp) bCi kCi (PySem.W.mg_of X G aCi)
  have dNo := Def.mk (ok_nsOf (P := l.prog) (wrl := w) (mg := mg) (base := base) FNo) bNo kNo (PySem.W.mg_of X G aNo)
  have dN := Def.mk (ok_next (P := l.prog) (wrl := w) (base := base) FN B) bN kN (PySem.W.mg_of X G aN)
  have dNu := Def.mk (ok_number FNu dN) bNu kNu (PySem.W.mg_of X G aNu)
  have dPa := Def.mk (ok_parts FPa dN dNu) bPa kPa (PySem.W.mg_of X G aPa)
  have dIn := Def.mk (ok_integer (P := l.prog) (wrl := w) (base := base) FIn Dx) bIn kIn (PySem.W.mg_of X G aIn)
  have dSi := Def.mk (ok_size (P := l.prog) (wrl := w) (mg := mg) (base := base) FSi) bSi kSi (PySem.W.mg_of X G aSi)
  have dLa := Def.mk (ok_last FLa Dx dIn) bLa kLa (PySem.W.mg_of X G aLa)
  have dDu := Def.mk (ok_due FDu B Dx dIn dSi dLa) bDu kDu (PySem.W.mg_of X G aDu)
  exact ok_law FL B Dx dN dPa dDu dCi dNo
/-- the law row's walk: at most 63 items -/
theorem walk_law {l : PySem.W.OpenLaw} {q : Program} {loose : List Str} {XP : (Str → Option Value) → Heap → Prop} {YP : World → Heap → Prop} {d : DefRec} {K : Params → PySem.W.Frag} (hn : l.most = some 63) (hdf : d.params.defaults = [])
    (hY : ∀ (w : World) (h : Heap), YP w h → (K w.params).In h)
    (F : ∀ (w : World) (mg : Str → Option Value) (fa : Addr) (h : Heap), (K w.params).In h → h.Ns mainGlobals mg → mg d.name = some (.ref fa) →
      ∃ fd : FuncData, (∀ (s : Shared) (u : Value), BindsTo s fd ⟨[u], []⟩ [("script", u)]) ∧ ∀ base : Heap, (K w.params).In base → base.Ns mainGlobals mg → FnOk l.prog w (K w.params) mg base CX0 5 fa fd ["script"] (spLaw (K w.params))) :
    PySem.W.WalkO q loose XP YP l.row.toRowW d [] (fun f vs => PySem.call f vs) :=
  L2.walk_of (n := 63) (k := 5) (x := "script") (CX := fun _ => CX0) (sp := fun w => spLaw (K w.params)) hn (by decide) hdf ⟨rfl, by decide, by decide⟩ hY F (fun _ _ a ns hl _ hS => ⟨a, ns, rfl, hS, hl, fun _ => rfl⟩) fun _ _ _ _ _ z => z
end Sg

set_option Elab.async false
set_option linter.all false
set_option maxRecDepth 100000
set_option maxHeartbeats 8000000
open PySem PySem.W PyProof.Rows
set_option maxRecDepth 100000 in
set_option maxHeartbeats 0 in
theorem PySem.Challenge.cw_spindlegate_k40_what_is_a_command_holds : PySem.Challenge.rw_spindlegate_k40_what_is_a_command.Holds := by
  w_on; o_law; k_head; (case hw => w_witness2)
  k_fill
  refine Sg.walk_law (l := PySem.Challenge.rw_spindlegate_k40_what_is_a_command) rfl rfl (fun w h Y => PySem.W.kIn_of Y) ?F
  case F =>
    intro w mg fa h KX G hmg
    refine' Sg.all_mk KX G hmg ?aW ?lW ?cW ?kW ?aAL ?lAL ?cAL ?kAL ?aB ?lB ?cB ?kB ?aCi ?lCi ?cCi ?kCi ?aNo ?lNo ?cNo ?kNo ?aIp ?lIp ?cIp ?kIp ?aN ?lN ?cN ?kN ?aNu ?lNu ?cNu ?kNu ?aPa ?lPa ?cPa ?kPa ?aIn ?lIn ?cIn ?kIn ?aSi ?lSi ?cSi ?kSi ?aLa ?lLa ?cLa ?kLa ?aDu ?lDu ?cDu ?kDu ?aL ?lL ?cL ?kL ?gHOSTS ?gNAMESPACES ?gPLACES ?gPARTS ?lPARTS ?kPARTS ?wPARTS ?ePARTS ?en0 ?lT0 ?en1 ?lT1 ?en2 ?lT2 ?en3 ?lT3 ?en4 ?lT4 ?en5 ?lT5 ?en6 ?lT6 ?en7 ?lT7 ?en8 ?lT8 ?en9 ?lT9 ?en10 ?lT10 ?en11 ?lT11 ?en12 ?lT12 ?en13 ?lT13 ?z_isinstance ?z_int ?z_bool ?z_str ?z_tuple ?z_list ?z_len ?z_all ?z_zip ?z_abs ?z_sorted ?z_range
    (case aW => k_is)
    (case lW => k_is)
    (case cW => k_is)
    (case kW => k_is)
    (case aAL => k_is)
    (case lAL => k_is)
    (case cAL => k_is)
    (case kAL => k_is)
    (case aB => k_is)
    (case lB => k_is)
    (case cB => k_is)
    (case kB => k_is)
    (case aCi => k_is)
    (case lCi => k_is)
    (case cCi => k_is)
    (case kCi => k_is)
    (case aNo => k_is)
    (case lNo => k_is)
    (case cNo => k_is)
    (case kNo => k_is)
    (case aIp => k_is)
    (case lIp => k_is)
    (case cIp => k_is)
    (case kIp => k_is)
    (case aN => k_is)
    (case lN => k_is)
    (case cN => k_is)
    (case kN => k_is)
    (case aNu => k_is)
    (case lNu => k_is)
    (case cNu => k_is)
    (case kNu => k_is)
    (case aPa => k_is)
    (case lPa => k_is)
    (case cPa => k_is)
    (case kPa => k_is)
    (case aIn => k_is)
    (case lIn => k_is)
    (case cIn => k_is)
    (case kIn => k_is)
    (case aSi => k_is)
    (case lSi => k_is)
    (case cSi => k_is)
    (case kSi => k_is)
    (case aLa => k_is)
    (case lLa => k_is)
    (case cLa => k_is)
    (case kLa => k_is)
    (case aDu => k_is)
    (case lDu => k_is)
    (case cDu => k_is)
    (case kDu => k_is)
    (case aL => k_is)
    (case lL => k_is)
    (case cL => k_is)
    (case kL => k_is)
    (case gHOSTS => k_is)
    (case gNAMESPACES => k_is)
    (case gPLACES => k_is)
    (case gPARTS => k_is)
    (case lPARTS => k_is)
    (case kPARTS => first | k_is | (repeat' (first | exact trivial | refine ⟨⟨_, _, rfl, rfl⟩, ?_⟩)))
    (case wPARTS => first | rfl | decide | k_is)
    (case ePARTS => k_is)
    (case en0 => k_is)
    (case lT0 => k_is)
    (case en1 => k_is)
    (case lT1 => k_is)
    (case en2 => k_is)
    (case lT2 => k_is)
    (case en3 => k_is)
    (case lT3 => k_is)
    (case en4 => k_is)
    (case lT4 => k_is)
    (case en5 => k_is)
    (case lT5 => k_is)
    (case en6 => k_is)
    (case lT6 => k_is)
    (case en7 => k_is)
    (case lT7 => k_is)
    (case en8 => k_is)
    (case lT8 => k_is)
    (case en9 => k_is)
    (case lT9 => k_is)
    (case en10 => k_is)
    (case lT10 => k_is)
    (case en11 => k_is)
    (case lT11 => k_is)
    (case en12 => k_is)
    (case lT12 => k_is)
    (case en13 => k_is)
    (case lT13 => k_is)
    (case z_isinstance => k_is)
    (case z_int => k_is)
    (case z_bool => k_is)
    (case z_str => k_is)
    (case z_tuple => k_is)
    (case z_list => k_is)
    (case z_len => k_is)
    (case z_all => k_is)
    (case z_zip => k_is)
    (case z_abs => k_is)
    (case z_sorted => k_is)
    (case z_range => k_is)

