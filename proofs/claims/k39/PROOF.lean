import PyProof.Rows.All
import Wide.All
import OpenK.AllK
import Wide.FinOn
import HandS.Base
import HandS.Call
import HandS.List
import HandS.Comp
import HandS.Ends
import HandS.Dict
import HandS.Iter
import HandS.Text
import HandS.Words
import HandS.WordsList
import HandS.Steps
import HandS.Evl
import HandS.Exc
import HandS.TryOnly
import HandS.ExcOwn
import HandS.WordsExc
import HandS.IsInst
import HandS.ExcIs
import HandS.Deep
import HandS.More
import HandS.WrittenGet
import KE.KIndexOf
import HandS.Zip
import HandS.Star
import HandS.DictComp
import HandS.Conv
import PySem.Challenge.RW_spindlegate_k39_sessions
set_option Elab.async false
set_option linter.all false
set_option maxRecDepth 100000
set_option maxHeartbeats 4000000
/-! General lemmas: readings of expressions, small heaps, lists. -/
namespace Sg
open PySem PySem.Spec PyProof.Rows L2
section
variable {σ : L2.St} {H : Hp} {ta tb te : TE} {i j : Int} {K : PySem.W.Frag} {x y z : V}
theorem v0 {g : Int → Int → V} (ha : Val ta σ H (.int i)) (hb : Val tb σ H (.int j)) : Val (tOp (rI0 g) ta tb) σ H (g i j) := val_op ha hb fun _ q => ⟨i, j, rfl, rfl, q⟩
theorem vc {C : Int → Int → Prop} {g : Int → Int → V} (ha : Val ta σ H (.int i)) (hb : Val tb σ H (.int j)) (hc : C i j) : Val (tOp (rI C g) ta tb) σ H (g i j) := val_op ha hb fun _ q => ⟨i, j, rfl, rfl, hc, q⟩
theorem vEq (ha : Val ta σ H x) (hb : Val tb σ H y) (hs : scal x y = true) : Val (tOp rEq ta tb) σ H (.bl (decide (x = y))) := val_op ha hb fun _ q => ⟨hs, q⟩
theorem vNe (ha : Val ta σ H x) (hb : Val tb σ H y) (hs : scal x y = true) : Val (tOp rNe ta tb) σ H (.bl (!decide (x = y))) := val_op ha hb fun _ q => ⟨hs, q⟩
theorem vIx {p : Addr} {xs : List V} {n : Nat} (ha : Val ta σ H (.ref p)) (hb : Val tb σ H (.int (n : Int))) (hp : SqL K H p xs) (hn : xs[n]? = some z) : Val (tOp (rIxL K) ta tb) σ H z :=
  val_op ha hb fun _ q => ⟨p, xs, _, z, rfl, rfl, hp, atI_nat hn, q⟩
theorem vIs {v w : V} (h : Val te σ H v) (e : v = w) : Val te σ H w := e ▸ h
/-- a built-in's call of one argument -/
theorem vCB1 {r : List V → Hp → VK → Prop} (ha : Val ta σ H x) (hr : ∀ Q : VK, Q z H → r [x] H Q) : Val (tCB r (tCons ta tNil)) σ H z := fun Q q => ha _ (hr Q q)
theorem vCB2 {r : List V → Hp → VK → Prop} (ha : Val ta σ H x) (hb : Val tb σ H y) (hr : ∀ Q : VK, Q z H → r [x, y] H Q) : Val (tCB r (tCons ta (tCons tb tNil))) σ H z := fun Q q => ha _ (hb _ (hr Q q))
theorem aTest {b : Bool} (h : Val te σ H (.bl b)) : Ans (tTest te) σ H b := fun Q q => h _ ⟨b, rfl, q⟩
end
theorem map_get {α β : Type} {f : α → β} {l : List α} {i : Nat} {y : β} (h : (l.map f)[i]? = some y) : ∃ z, l[i]? = some z ∧ y = f z := by
  rw [List.getElem?_map] at h
  cases e : l[i]? with
  | none =>
    rw [e] at h
    cases h
  | some z =>
    rw [e] at h
    exact ⟨z, rfl, (Option.some.inj h).symm⟩
theorem get_map {α β : Type} {f : α → β} {l : List α} {i : Nat} {z : α} (h : l[i]? = some z) : (l.map f)[i]? = some (f z) := by rw [List.getElem?_map, h]; rfl
theorem upd_two {H : Hp} {a : Addr} {o u : HO} : upd (upd H a o) a u = upd H a u := upd_upd
theorem same_new {H : Hp} {p : Addr} {o : HO} (h : H p = Option.none) : Same H (upd H p o) := fun b u e => by
  rw [upd_ne (ne_of_none e h)]
  exact e
end Sg

set_option Elab.async false
set_option linter.all false
set_option maxRecDepth 100000
set_option maxHeartbeats 4000000
namespace Sg
open PySem PySem.Spec PyProof.Rows L2
/-! ### rules of our own -/
section
variable {X : Cx}
/-- C(), an own exception without an __init__ of its own -/
theorem pmk_own0 {C : Addr} {bmB : List Value} {B newId initId : String} {x : Str} {p pos : Pos} (F : ExcBaseFacts B newId initId bmB) (q : PySem.W.excIn X.K C bmB newId = true) (gC : X.mg x = some (.ref C))
    (kC : PySem.W.keepIn X.K (.ref C) = true) (r : Raises X (.ref C)) (hg : Gl X x) (hdb : (x == ("__debug__" : Str)) = false := by decide) :
    PMk X (.Call (.Name x p) [] [] pos) (fun _ H Q => Q (.ref C) none H) := by
  intro pins s σ H Q I h
  refine wpAny_Call_Name_kw (ld_glob I hg gC ?_ hdb)
  refine PySem.W.callWith_K0 I.kIn kC ?_
  obtain ⟨bm, N, nm, qn, bs, hdct, sn, sub, ab, col, dd, k0, k1, k2, k3, k5, mN, hC, hN, hni, T⟩ := exc_obj I.kIn q
  exact wpAny_call_exc_subT F T hC hN hni (fun h' e hm => mk_of I hm r h (I.hok.gone hm.new)) (Nat.zero_le _)
/-- o[i] of a list, by values, a place in bounds from the left -/
def rGetL (K : PySem.W.Frag) : V → V → Hp → VK → Prop := fun o i H Q => ∃ p xs n v, o = .ref p ∧ i = .int ((n : Nat) : Int) ∧ SqL K H p xs ∧ xs[n]? = some v ∧ Q v H
theorem get_list : PGet X (rGetL X.K) := by
  intro pins s σ H o i ov iv Q I ro ri h
  obtain ⟨p, xs, n, v, rfl, rfl, hq, he, q⟩ := h
  cases ro
  obtain ⟨t, rfl⟩ := ri
  obtain ⟨its, r, pl, hz⟩ := I.list hq
  obtain ⟨w, ew, rw'⟩ := r.get he
  have hl := r.length
  have hn := line63
  have hb := (List.getElem?_eq_some_iff.mp he).1
  exact wpAny_getItem_list pl.isList (by omega) (by omega) (by simpa using ew) ⟨v, H, I, rw', q⟩
/-- l.count(y): how many are equal, data of any depth -/
def rCountD (K : PySem.W.Frag) : V → List V → Hp → VK → Prop := fun x xs H Q => ∃ (a : Addr) (y : V) (d : PyData) (ds : List PyData), x = V.ref a ∧ xs = [y] ∧ Dp K H (V.ref a) (.list ds) ∧ Dp K H y d ∧
  SeqAt.shaped (.list ds) = true ∧ SeqAt.shaped d = true ∧ Q (.int (ds.countP (fun z => PyData.eqv z d) : Nat)) H
theorem mt_countD (hu : X.A.units + 65 < cLine) : MtR X "list.count" (rCountD X.K) := by
  intro pins s σ H x xs v us Q I rx rxs h
  obtain ⟨a, y, d, ds, rfl, rfl, hl, hy, sl, sd, q⟩ := h
  cases rx
  cases rxs with
  | cons ry rt =>
    rename_i uy ut
    cases rt
    obtain ⟨bs, r1⟩ := Dp.reads I d y uy hy ry
    have hxs : PyData.canLayAll0 ds = true := SeqAt.canLay_of_shaped sl
    have hroom : X.A.units + 1 + min (PyData.depthAll ds) d.depth < cLine := room_in_shaped sd hu
    cases hl with
    | lst hs ha =>
      obtain ⟨its, rv, ⟨⟨cls, dd, data, sls⟩, n, ho, hc, hdn, hdt⟩, hlen⟩ := I.list hs
      simp only at hc hdt
      subst hc hdt
      obtain ⟨as, h4⟩ := Dp.readsAll I ds _ its ha rv
      have hmap : its.map (SeqAt.readOf s.heap) = ds := SeqAt.readsAll_map ds its as hxs h4
      refine call_meets PySem.F.slot_list_count ⟨_, ho, rfl⟩ PySem.F.entry_list_count (PySem.F.args_list_count_2 _ _)
        (SeqAt.list_countAt a its.toArray n dd sls uy (fun u => PyData.eqv (SeqAt.readOf s.heap u) d)) ⟨ho, SeqAt.items_eqAt (vs := its.toArray) (show ReadsAll s.heap its.toArray.toList ds as from h4) r1 hxs (SeqAt.canLay_of_shaped sd) hroom, ?_⟩
      have ec : its.toArray.toList.countP (fun u => PyData.eqv (SeqAt.readOf s.heap u) d) = ds.countP (fun z => PyData.eqv z d) := by
        rw [← hmap, List.countP_map]
        rfl
      refine ⟨.int (ds.countP (fun z => PyData.eqv z d) : Nat), H, I.tok _, ⟨s.toks, ?_⟩, q⟩
      show Value.int ((its.toArray.toList.countP (fun u => PyData.eqv (SeqAt.readOf s.heap u) d) : Nat) : Int) s.toks = _
      rw [ec]
/-- isinstance(e, c), e the exception that the suite holds, whatever its class is -/
def rIsX (K : PySem.W.Frag) (a : Addr) (cls : Value) (d : Option Addr) : List V → Hp → VK → Prop := fun xs H Q => ∃ (D : Addr) (c : V) (cv : Value) (b : Bool), cls = .ref D ∧ d = none ∧ ExcC K D ∧ xs = [.ref a, c] ∧ (∀ u, RelV c u → u = cv) ∧ PySem.W.kitOne K (.ref D) cv = some b ∧ Q (.bl b) H
theorem call_isX {a : Addr} {oe : Obj} {cls : Value} {d : Option Addr} {pn : List (Addr × Obj)} (hz : Zc cls d oe) (hf : ∃ vs, oe.data = .fields vs) : CallR (X.suite a ((a, oe) :: pn)) (.builtin "isinstance") (rIsX X.K a cls d) := by
  intro pins s σ H xs us Q I r h
  obtain ⟨D, c, cv, b, rfl, rfl, C, rfl, hcv, e, q⟩ := h
  exact call_isE C hz hf pins s σ H _ us Q I r ⟨c, cv, b, rfl, hcv, e, q⟩
end
/-- an exception of a subclass is what the clause names -/
theorem exm_sub {K : PySem.W.Frag} {S T : Addr} (h1 : PySem.W.subIn K (.ref T) (.type "BaseException") = some true) (h2 : PySem.W.isClsIn K T = true) (h3 : PySem.W.typeIn K (.ref T) = some (.type "type")) (h4 : PySem.W.subIn K (.ref S) (.ref T) = some true) :
    PySem.W.exmOne K (.ref S) (.ref T) = some true := by
  have e1 : (PySem.W.subIn K (.ref T) (.type "BaseException") == some true) = true := by rw [h1] <;> rfl
  have e2 : ((PySem.W.clsIn K T).isSome && PySem.W.typeIn K (.ref T) == some (.type "type")) = true := by
    have h2' : (PySem.W.clsIn K T).isSome = true := h2
    rw [h2', h3] <;> rfl
  show (if (PySem.W.subIn K (.ref T) (.type "BaseException") == some true) = true then (if ((PySem.W.clsIn K T).isSome && PySem.W.typeIn K (.ref T) == some (.type "type")) = true then PySem.W.subIn K (.ref S) (.ref T) else none) else none) = some true
  rw [if_pos e1, if_pos e2]
  exact h4
end Sg

set_option Elab.async false
set_option linter.all false
set_option maxRecDepth 100000
set_option maxHeartbeats 4000000
namespace Sg
open PySem PySem.Spec PyProof.Rows L2
def top (i : Nat) : Stmt := PySem.Challenge.pw_spindlegate_k39_sessions.main.body.getD i (.Pass ⟨0, 0, 0, 0⟩)
abbrev cS (i : Nat) : Stmt := inClass (top 4) i
abbrev sNext : Stmt := top 6
abbrev sTold : Stmt := top 7
abbrev sConn : Stmt := top 8
abbrev sKind : Stmt := top 9
abbrev sBegin : Stmt := top 10
abbrev sKeep : Stmt := top 11
abbrev sShows : Stmt := top 12
abbrev sKept : Stmt := top 13
abbrev sDeed : Stmt := top 14
abbrev sLaw : Stmt := top 15
structure Def (P : Program) (wd : World) (K : PySem.W.Frag) (mg : Str → Option Value) (base : Heap) (CX : CXT) (x : Str) (k : Nat) (ps : List Str) (sp : Sp) (f : Addr) (fd : FuncData) : Prop where
  ok : FnOk P wd K mg base CX k f fd ps sp
  bd : Binds K fd ps []
  kp : PySem.W.keepIn K (.ref f) = true
  mg : mg x = some (.ref f)
/-! ### what is kept -/
/-- every tuple is kept -/
structure TK (H H' : Hp) : Prop where
  t : ∀ a xs, H a = some (.tup xs) → H' a = some (.tup xs)
  f : ∀ a o xs, H a = some (.frz o (.tup xs)) → H' a = some (.frz o (.tup xs))
theorem TK.refl (H : Hp) : TK H H := ⟨fun _ _ h => h, fun _ _ _ h => h⟩
theorem TK.trans {H H1 H2 : Hp} (a : TK H H1) (b : TK H1 H2) : TK H H2 := ⟨fun x y h => b.t _ _ (a.t _ _ h), fun x y z h => b.f _ _ _ (a.f _ _ _ h)⟩
theorem TK.of {H H' : Hp} (s : Same H H') : TK H H' := ⟨fun _ _ h => s _ _ h, fun _ _ _ h => s _ _ h⟩
def Off (xs : List Addr) (H H' : Hp) : Prop := ∀ b o, H b = some o → b ∉ xs → H' b = some o
theorem Off.refl {xs : List Addr} (H : Hp) : Off xs H H := fun _ _ h _ => h
theorem Off.trans {xs : List Addr} {H H1 H2 : Hp} (a : Off xs H H1) (b : Off xs H1 H2) : Off xs H H2 := fun x o h n => b _ _ (a _ _ h n) n
theorem Off.of {xs : List Addr} {H H' : Hp} (s : Same H H') : Off xs H H' := fun _ _ h _ => s _ _ h
theorem Off.upd {xs : List Addr} {H : Hp} {p : Addr} {o : HO} (h : p ∈ xs) : Off xs H (upd H p o) := fun b u e n => by
  rw [upd_ne (fun (z : b = p) => n (by rw [z]; exact h))]; exact e
/-- lists and dicts alone were changed -/
theorem TK.off {xs : List Addr} {H H' : Hp} (o : Off xs H H') (h : ∀ x ∈ xs, (∃ l, H x = some (.lst l)) ∨ ∃ d, H x = some (.dK d)) : TK H H' := by
  refine ⟨fun a l e => o _ _ e fun m => ?_, fun a b l e => o _ _ e fun m => ?_⟩
  · rcases h a m with ⟨z, q⟩ | ⟨z, q⟩ <;> (rw [e] at q; cases q)
  · rcases h a m with ⟨z, q⟩ | ⟨z, q⟩ <;> (rw [e] at q; cases q)
section
variable {K : PySem.W.Frag} {H H' : Hp}
theorem sqT_tk {a : Addr} {xs : List V} (h : SqT K H a xs) (s : TK H H') : SqT K H' a xs := by
  rcases h with (h | ⟨o, h⟩) | h
  · exact .inl (.inl (s.t _ _ h))
  · exact .inl (.inr ⟨o, s.f _ _ _ h⟩)
  · exact .inr h
end
def strIn (s : Str) (ns : List Str) : Bool := ns.any fun y => decide (y = s)
theorem inV_str {s : Str} : ∀ {ns : List Str}, inV (.str s) (ns.map V.str) = strIn s ns
  | [] => rfl
  | n :: ns => by
    show (eqV (.str n) (.str s) || inV (.str s) (ns.map V.str)) = (decide (n = s) || strIn s ns)
    rw [inV_str (ns := ns)]
    rfl
theorem flat_strs : ∀ {ns : List Str}, (ns.map V.str).all flatV = true
  | [] => rfl
  | n :: ns => by rw [List.map_cons, List.all_cons, flat_strs (ns := ns)]; rfl
def strInD (ns : List Str) : PyData → Bool
  | .str s => strIn s ns
  | _ => false
theorem str_eqT {x : Str} : decide (V.str x = V.str x) = true := decide_eq_true rfl
theorem str_eqF {x y : Str} (h : ¬ x = y) : decide (V.str x = V.str y) = false := decide_eq_false (fun z => h (by cases z; rfl))
theorem nil_ {σ : L2.St} {H : Hp} {Q : List V → Hp → Prop} (h : Q [] H) : tNil σ H Q := h
theorem tc_ {σ : L2.St} {H : Hp} {v : V} {Q : List V → Hp → Prop} (h : Q [v] H) : tCons (tC v) tNil σ H Q := h
theorem yesIte {σ : L2.St} {H : Hp} {A B : Hp → Prop} (h : A H) : tYes σ H (fun b H3 => if b = true then A H3 else B H3) := by
  show (if true = true then A H else B H)
  rw [if_pos rfl]; exact h
/-- a method, ready to be called -/
structure Mth (P : Program) (wd : World) (K : PySem.W.Frag) (mg : Str → Option Value) (base : Heap) (CX : CXT) (C : Addr) (x : Str) (k : Nat) (ps : List Str) (sp : Sp) (f : Addr) (fd : FuncData) : Prop where
  ok : FnOk P wd K mg base CX k f fd ps sp
  bd : Binds K fd ps []
  me : Meth K C x f
theorem lk_here {k : Str} {v : V} {r : List (Str × V)} : List.lookup k ((k, v) :: r) = some v := by
  have e : (k == k) = true := beq_self_eq_true k
  simp only [List.lookup, e]
theorem lk_past {k g : Str} {v : V} {r : List (Str × V)} (h : (k == g) = false) : List.lookup k ((g, v) :: r) = List.lookup k r := by
  simp only [List.lookup, h]
theorem put_here {f : Str} {v x : V} {r : List (Str × V)} : putF f v ((f, x) :: r) = (f, v) :: r := if_pos rfl
theorem put_past {f g : Str} {v x : V} {r : List (Str × V)} (h : ¬ g = f) : putF f v ((g, x) :: r) = (g, x) :: putF f v r := if_neg h
end Sg

set_option Elab.async false
set_option linter.all false
set_option maxRecDepth 100000
set_option maxHeartbeats 4000000
namespace Sg
open PySem PySem.Spec PyProof.Rows L2
/-! ### data -/
def intB : PyData → Bool
  | .int _ => true
  | .bool _ => true
  | _ => false
def boolB : PyData → Bool
  | .bool _ => true
  | _ => false
def strB : PyData → Bool
  | .str _ => true
  | _ => false
def tupB : PyData → Bool
  | .tuple _ => true
  | _ => false
def lstB : PyData → Bool
  | .list _ => true
  | _ => false
def wholeD : PyData → Bool
  | .int _ => true
  | _ => false
def atLeastD (lo : Int) : PyData → Bool
  | .int i => decide (lo ≤ i)
  | _ => false
def betwD (lo hi : Int) : PyData → Bool
  | .int i => decide (lo ≤ i) && decide (i ≤ hi)
  | _ => false
/-- what a value's type is, by its data -/
theorem dp_ty {K : PySem.W.Frag} {H : Hp} {x : V} {d : PyData} (h : Dp K H x d) : ∃ t, TyX K H x t ∧ PySem.W.kitOne K t (.type "int") = some (intB d) ∧ PySem.W.kitOne K t (.type "bool") = some (boolB d) ∧ PySem.W.kitOne K t (.type "str") = some (strB d) ∧
    PySem.W.kitOne K t (.type "tuple") = some (tupB d) ∧ PySem.W.kitOne K t (.type "list") = some (lstB d) := by
  cases h with
  | non => exact ⟨_, .base .non, (show PySem.W.kitOne K (.type "NoneType") (.type "int") = some false from kit_ty (by decide +kernel)), (show PySem.W.kitOne K (.type "NoneType") (.type "bool") = some false from kit_ty (by decide +kernel)), (show PySem.W.kitOne K (.type "NoneType") (.type "str") = some false from kit_ty (by decide +kernel)), (show PySem.W.kitOne K (.type "NoneType") (.type "tuple") = some false from kit_ty (by decide +kernel)), (show PySem.W.kitOne K (.type "NoneType") (.type "list") = some false from kit_ty (by decide +kernel))⟩
  | bl b => exact ⟨_, .base (.bl b), (show PySem.W.kitOne K (.type "bool") (.type "int") = some true from kit_ty (by decide +kernel)), (show PySem.W.kitOne K (.type "bool") (.type "bool") = some true from kit_ty (by decide +kernel)), (show PySem.W.kitOne K (.type "bool") (.type "str") = some false from kit_ty (by decide +kernel)), (show PySem.W.kitOne K (.type "bool") (.type "tuple") = some false from kit_ty (by decide +kernel)), (show PySem.W.kitOne K (.type "bool") (.type "list") = some false from kit_ty (by decide +kernel))⟩
  | int i => exact ⟨_, .base (.int i), (show PySem.W.kitOne K (.type "int") (.type "int") = some true from kit_ty (by decide +kernel)), (show PySem.W.kitOne K (.type "int") (.type "bool") = some false from kit_ty (by decide +kernel)), (show PySem.W.kitOne K (.type "int") (.type "str") = some false from kit_ty (by decide +kernel)), (show PySem.W.kitOne K (.type "int") (.type "tuple") = some false from kit_ty (by decide +kernel)), (show PySem.W.kitOne K (.type "int") (.type "list") = some false from kit_ty (by decide +kernel))⟩
  | str x => exact ⟨_, .base (.str x), (show PySem.W.kitOne K (.type "str") (.type "int") = some false from kit_ty (by decide +kernel)), (show PySem.W.kitOne K (.type "str") (.type "bool") = some false from kit_ty (by decide +kernel)), (show PySem.W.kitOne K (.type "str") (.type "str") = some true from kit_ty (by decide +kernel)), (show PySem.W.kitOne K (.type "str") (.type "tuple") = some false from kit_ty (by decide +kernel)), (show PySem.W.kitOne K (.type "str") (.type "list") = some false from kit_ty (by decide +kernel))⟩
  | lst hs _ =>
    refine ⟨.type "list", ?_, (show PySem.W.kitOne K (.type "list") (.type "int") = some false from kit_ty (by decide +kernel)), (show PySem.W.kitOne K (.type "list") (.type "bool") = some false from kit_ty (by decide +kernel)), (show PySem.W.kitOne K (.type "list") (.type "str") = some false from kit_ty (by decide +kernel)), (show PySem.W.kitOne K (.type "list") (.type "tuple") = some false from kit_ty (by decide +kernel)), (show PySem.W.kitOne K (.type "list") (.type "list") = some true from kit_ty (by decide +kernel))⟩
    rcases hs with (h | ⟨o, h⟩) | ⟨o, its, n, h1, h2, _⟩
    · exact .base (.lst h)
    · exact .base (.frz h)
    · exact .kList h1 h2
  | tup hs _ =>
    refine ⟨.type "tuple", ?_, (show PySem.W.kitOne K (.type "tuple") (.type "int") = some false from kit_ty (by decide +kernel)), (show PySem.W.kitOne K (.type "tuple") (.type "bool") = some false from kit_ty (by decide +kernel)), (show PySem.W.kitOne K (.type "tuple") (.type "str") = some false from kit_ty (by decide +kernel)), (show PySem.W.kitOne K (.type "tuple") (.type "tuple") = some true from kit_ty (by decide +kernel)), (show PySem.W.kitOne K (.type "tuple") (.type "list") = some false from kit_ty (by decide +kernel))⟩
    rcases hs with (h | ⟨o, h⟩) | ⟨o, its, n, h1, h2, _⟩
    · exact .base (.tup h)
    · exact .fTuple h
    · exact .kTuple h1 h2
theorem SqT_same {K : PySem.W.Frag} {H H' : Hp} {a : Addr} {xs : List V} (s : Same H H') (h : SqT K H a xs) : SqT K H' a xs := by
  rcases h with (h | ⟨o, h⟩) | h
  · exact .inl (.inl (s _ _ h))
  · exact .inl (.inr ⟨o, s _ _ h⟩)
  · exact .inr h
mutual
theorem dp_same {K : PySem.W.Frag} {H H' : Hp} (s : Same H H') : ∀ (d : PyData) (x : V), Dp K H x d → Dp K H' x d
  | .none, _, h => by cases h; exact .non
  | .bool _, _, h => by cases h; exact .bl _
  | .int _, _, h => by cases h; exact .int _
  | .str _, _, h => by cases h; exact .str _
  | .list ds, _, h => by
    cases h with
    | lst hs ha => exact .lst (s.seq hs) (dpAll_same s ds _ ha)
  | .tuple ds, _, h => by
    cases h with
    | tup hs ha => exact .tup (SqT_same s hs) (dpAll_same s ds _ ha)
  | .dict _, _, h => by cases h
theorem dpAll_same {K : PySem.W.Frag} {H H' : Hp} (s : Same H H') : ∀ (ds : List PyData) (xs : List V), DpAll K H xs ds → DpAll K H' xs ds
  | [], _, h => by cases h; exact .nil
  | d :: ds, _, h => by
    cases h with
    | cons a b => exact .cons (dp_same s d _ a) (dpAll_same s ds _ b)
end
theorem boot_isi : bootBuiltins "isinstance" = some (.builtin "isinstance") := by decide +kernel
end Sg

set_option Elab.async false
set_option linter.all false
set_option maxRecDepth 100000
set_option maxHeartbeats 4000000
namespace Sg
open PySem PySem.Spec PyProof.Rows L2
open HT
section
variable {prog : Program} {w : World} {A : Around} {E : Value → Shared → Prop} {s : Shared}
/-- t[lo:hi] that takes all of a tuple is the tuple itself -/
theorem tup_all {t sl : Addr} {items : Array Value} {vl vu : Value} {lo hi : Option Int} {Q : Value → Shared → Prop} (ht : IsTup s.heap t items) (hs : s.heap.IsSliceOf sl vl vu .none) (pl : IsPart vl lo) (pu : IsPart vu hi)
    (h1 : sIx items.size 0 lo = 0) (h2 : sIx items.size items.size hi = items.size) (h : Q (.ref t) s) : wpAny (model prog w) A (getItem (.ref t) (.ref sl)) Q E s := by
  obtain ⟨os, hos, hcs, hds⟩ := id hs
  have hTs : s.TypeIs (.ref sl) "slice" := ⟨os, hos, hcs⟩
  unfold getItem
  try with_reducible refine wpAny_holding ?_
  first | refine wpAny_bind (wpAny_pure ?_) | skip
  refine wpAny_bind (wpAny_sequenceKey ht.typeIs (by decide) ?_)
  refine wpAny_bind (wpAny_callSpecial?_slot (name := Str.ofString "__getitem__") ht.typeIs PyProof.Rows.slot_tuple_getitem
    (wpAny_call_entry PyProof.Rows.slot_tuple_getitem ht.typeIs entry_tuple_getitem ?_ (args_tuple_getitem _ _)))
  show wpAny _ _ (Builtin.Tuple.tupleItemsOf (.ref t) >>= _) _ _ s
  refine wpAny_bind (tupleItemsOf_ ht (wpAny_bind (wpAny_typeOf hTs ?_)))
  rw [if_pos (by decide)]
  refine wpAny_bind (sliceApplied_gen hs pl pu ?_)
  rw [h1, h2]
  show wpAny _ _ (if (((0 : Nat) : Int) == 0 && (1 : Int) == 1 && (items.size - 0) == items.size) = true then _ else _) _ _ s
  rw [if_pos (by simp)]
  show wpAny _ _ (Builtin.Tuple.tupleIsExact (.ref t) >>= _) _ _ s
  refine wpAny_bind (m := Builtin.Tuple.tupleIsExact _) ?_
  unfold Builtin.Tuple.tupleIsExact
  refine wpAny_bind (wpAny_typeOf ht.typeIs (wpAny_pure ?_))
  rw [if_pos (by decide)]
  exact wpAny_bind (wpAny_rule (wpAny_pure ⟨_, rfl, wpAny_pure h⟩))
end
section
variable {X : Cx}
/-- t[lo:hi], a part or all of a tuple -/
def rSlA (K : PySem.W.Frag) : V → Option Int → Option Int → Hp → VK → Prop := fun x lo hi H Q => ∃ a xs, x = .ref a ∧ SqT K H a xs ∧ ∀ p H', Same H H' → SqT K H' p (cutV xs lo hi) → Q (.ref p) H'
theorem sl_any : SlR X (rSlA X.K) := by
  intro pins s σ H x v vl vu lo hi sl Q I rx hs pl pu h
  obtain ⟨a, xs, rfl, hx, q⟩ := h
  by_cases hw : sIx xs.length 0 lo = 0 ∧ sIx xs.length xs.length hi = xs.length
  · cases rx
    obtain ⟨its, r, ht, hz⟩ := I.tuple hx
    have hlen : its.toArray.size = xs.length := by rw [List.size_toArray]; exact r.length.symm
    refine ⟨"tuple", _, PyProof.Rows.slot_tuple_getitem.lookup, ht.typeIs, ?_⟩
    refine tup_all ht hs pl pu (by rw [hlen]; exact hw.1) (by rw [hlen]; exact hw.2) ⟨.ref a, H, I, rfl, q a H (Same.refl H) ?_⟩
    have e : cutV xs lo hi = xs := by
      unfold cutV
      rw [hw.1, hw.2]
      simp
    rw [e]
    exact hx
  · exact sl_tup pins s σ H (.ref a) v vl vu lo hi sl Q I rx hs pl pu ⟨a, xs, rfl, hx, hw, fun p hp => q p _ (same_new hp) (SqT.of upd_same)⟩
/-- x is b, x is not b: b True or False -/
def rIsB (neg : Bool) : R2 := fun x y H Q => ∃ b c, y = .bl b ∧ x = .bl c ∧ Q (.bl (if neg then !decide (c = b) else decide (c = b))) H
theorem op_isB : OpR X (compareOp .Is) (rIsB false) := by
  intro pins s σ H x y v u Q I rx ry h
  obtain ⟨b, c, rfl, rfl, q⟩ := h
  cases rx
  cases ry
  have e : (Value.bool c == Value.bool b) = decide (c = b) := by cases b <;> cases c <;> rfl
  exact wpAny_is_plain rfl ⟨.bl (decide (c = b)), H, I, by rw [e]; rfl, q⟩
theorem op_isNotB : OpR X (compareOp .IsNot) (rIsB true) := by
  intro pins s σ H x y v u Q I rx ry h
  obtain ⟨b, c, rfl, rfl, q⟩ := h
  cases rx
  cases ry
  have e : (Value.bool c == Value.bool b) = decide (c = b) := by cases b <;> cases c <;> rfl
  show wpAny _ _ ((isSame (Value.bool c) (Value.bool b)) >>= fun z => pure (Value.bool (!z))) _ _ s
  exact wpAny_bind (wpAny_isSame_plain rfl (wpAny_pure ⟨.bl (!decide (c = b)), H, I, by rw [e]; rfl, q⟩))
end
section
variable {K : PySem.W.Frag} {σ : L2.St} {H1 : Hp} {D a b : Addr} {vs : List Nat} {j1 j2 : Nat} {xs ys : List V} {te : TE} {Qd : Hp → Prop}
theorem lc_zipS (bs : List Bool) (hl : xs.length = ys.length) (hlen : bs.length = xs.length) (hD : H1 D = Option.none) (hx : SqT K H1 a xs) (hy : SqT K H1 b ys) (hw : ∀ x y, wipe (((wipe σ vs).set j1 (some x)).set j2 (some y)) vs = wipe σ vs) (hz : xs.length ≤ 1000)
    (he : ∀ (i : Nat) (x y : V) (bb : Bool) (H' : Hp) (Q' : VK), xs[i]? = some x → ys[i]? = some y → bs[i]? = some bb → Same H1 H' → (∀ H'', Same H' H'' → Q' (.bl bb) H'') → te (((wipe σ vs).set j1 (some x)).set j2 (some y)) H' Q')
    (hd : ∀ H', Same H1 H' → H' D = some (.lst (bs.map V.bl)) → Qd H') :
    ∃ W : Nat → Nat → Hp → Prop, (∃ m, W 0 m (upd H1 D (.lst []))) ∧ ∀ i m H, W i m H →
      ((RZ.ItzT K a b).stop i H ∧ Qd H) ∨ ((RZ.ItzT K a b).go i H ∧ ∃ Nx : Hp → Prop, (∀ H', Nx H' → ∃ m', m' < m ∧ W (i + 1) m' H') ∧ ∀ x H', (RZ.ItzT K a b).yld i H x H' → gTup K 2 (gCons (gName j1) (gCons (gName j2) gNil)) x (wipe σ vs) H' fun σ2 H2 => wipe σ2 vs = wipe σ vs ∧ tYes σ2 H2 fun b H3 =>
        if b = true then te σ2 H3 fun y H4 => ∃ acc, H4 D = some (.lst acc) ∧ acc.length < sizeLine ∧ Nx (upd H4 D (.lst (acc ++ [y]))) else Nx H3) := by
  refine ⟨fun i m H => m = xs.length - i ∧ i ≤ xs.length ∧ Same H1 H ∧ H D = some (.lst ((bs.map V.bl).take i)), ⟨xs.length, by simp, Nat.zero_le _, same_new hD, upd_same⟩, ?_⟩
  rintro i m H ⟨rfl, hi, sm, hDl⟩
  have hxa := SqT_same sm hx
  have hyb := SqT_same sm hy
  by_cases hlt : i < xs.length
  · have hix : xs[i]? = some xs[i] := List.getElem?_eq_getElem hlt
    have hiy : ys[i]? = some (ys[i]'(by omega)) := List.getElem?_eq_getElem (by omega)
    have hib : bs[i]? = some (bs[i]'(by omega)) := List.getElem?_eq_getElem (by omega)
    refine .inr ⟨⟨xs, ys, _, _, hxa, hyb, hix, hiy⟩, fun H' => i + 1 ≤ xs.length ∧ Same H1 H' ∧ H' D = some (.lst ((bs.map V.bl).take (i + 1))), fun H' p' => ⟨xs.length - (i + 1), by omega, rfl, p'⟩, ?_⟩
    rintro x H' ⟨T, x0, y0, rfl, hT, rfl, f1, f2⟩
    have e1 := f1 _ hxa
    have e2 := f2 _ hyb
    have s2 := same_new (o := .tup [x0, y0]) hT
    refine ⟨T, _, rfl, SqT.of upd_same, rfl, _, _, rfl, _, _, rfl, rfl, hw _ _, yesIte ?_⟩
    refine he i x0 y0 _ _ _ e1 e2 hib (sm.trans s2) fun H'' s3 => ⟨_, s3 _ _ (s2 _ _ hDl), ?_, by omega, ?_, ?_⟩
    · rw [List.length_take]; exact small1000 (by omega)
    · intro y o hy'
      rw [upd_ne (ne_of_none hy' hD)]
      exact s3 _ _ (s2 _ _ (sm _ _ hy'))
    · rw [upd_same, List.take_add_one, List.getElem?_map, hib]; rfl
  · have e : i = xs.length := by omega
    refine .inl ⟨⟨xs, ys, hxa, hyb, .inl (by omega)⟩, hd H sm ?_⟩
    rw [hDl, e, List.take_of_length_le (by rw [List.length_map]; omega)]
end
theorem dpAll_len {K : PySem.W.Frag} {H : Hp} : ∀ {xs : List V} {ds : List PyData}, DpAll K H xs ds → xs.length = ds.length
  | _, _, .nil => rfl
  | _, _, .cons _ b => by rw [List.length_cons, List.length_cons, dpAll_len b]
theorem dpAll_cons {K : PySem.W.Frag} {H : Hp} {xs : List V} {d : PyData} {ds : List PyData} (h : DpAll K H xs (d :: ds)) : ∃ x xs', xs = x :: xs' ∧ Dp K H x d ∧ DpAll K H xs' ds := by
  cases h with
  | cons a b => exact ⟨_, _, rfl, a, b⟩
theorem dpAll_nil {K : PySem.W.Frag} {H : Hp} {xs : List V} (h : DpAll K H xs []) : xs = [] := by cases h; rfl
theorem dp_tup {K : PySem.W.Frag} {H : Hp} {x : V} {d : PyData} (h : Dp K H x d) (t : tupB d = true) : ∃ a xs ds, x = .ref a ∧ d = .tuple ds ∧ SqT K H a xs ∧ DpAll K H xs ds := by
  cases h <;> first | exact ⟨_, _, _, rfl, rfl, ‹_›, ‹_›⟩ | cases t
theorem dpAll_get {K : PySem.W.Frag} {H : Hp} : ∀ {xs : List V} {ds : List PyData} {i : Nat} {x : V}, DpAll K H xs ds → xs[i]? = some x → ∃ d, ds[i]? = some d ∧ Dp K H x d
  | _, _, i, x, .nil, h => by simp at h
  | _, _, 0, x, .cons a b, h => ⟨_, rfl, by simp at h; subst h; exact a⟩
  | _, _, i + 1, x, .cons a b, h => by
    obtain ⟨d, e1, e2⟩ := dpAll_get b (i := i) (by simpa using h)
    exact ⟨d, by simpa using e1, e2⟩
theorem cut_take {xs : List V} {n : Nat} (h : n ≤ xs.length) : cutV xs Option.none (some (n : Int)) = xs.take n := by
  unfold cutV
  rw [show HT.sIx xs.length 0 none = 0 from HT.sIx_none _ _, HT.sIx_nat, Nat.min_eq_left h]
  simp
theorem cut_drop {xs : List V} {n : Nat} (h : n ≤ xs.length) : cutV xs (some (n : Int)) Option.none = xs.drop n := by
  unfold cutV
  rw [show HT.sIx xs.length xs.length none = xs.length from HT.sIx_none _ _, HT.sIx_nat, Nat.min_eq_left h]
  exact List.take_of_length_le (by rw [List.length_drop]; omega)
theorem shaped_of {d : PyData} (h : d.canLay0 = true) (h' : d.depth ≤ 64) : SeqAt.shaped d = true := by
  show (d.canLay0 && decide (d.depth ≤ 64)) = true
  rw [Bool.and_eq_true]; exact ⟨h, decide_eq_true h'⟩
abbrev cntL : List Int := [1, 2, 1, 3, 2, 1, 2, 1, 2, 2, 1, 3]
end Sg

set_option Elab.async false
set_option linter.all false
set_option maxRecDepth 100000
set_option maxHeartbeats 4000000
namespace Sg
open PySem PySem.Spec PyProof.Rows L2
/-- what is built-in of the names that the law's helpers use -/
structure LB (mg : Str → Option Value) : Prop where
  len : mg "len" = none
  abs : mg "abs" = none
  int : mg "int" = none
  list : mg "list" = none
  tuple : mg "tuple" = none
  sorted : mg "sorted" = none
  range : mg "range" = none
def Tape (K : PySem.W.Frag) (H : Hp) (p q : Addr) (ns : List Int) (i : Nat) (rest seed : Int) : Prop :=
  H p = some (.lst [.ref q, .int (i : Int), .int rest, .int seed]) ∧ SqL K H q (ns.map V.int) ∧ q ≠ p ∧ 0 ≤ rest ∧ 0 ≤ seed ∧ seed < 2147483647
def TapeAt (K : PySem.W.Frag) (H : Hp) (p : Addr) : Prop := ∃ q ns i rest seed, Tape K H p q ns i rest seed
theorem sqL_off {K : PySem.W.Frag} {H H' : Hp} {xs : List Addr} {a : Addr} {l : List V} (o : Off xs H H') (h : SqL K H a l) (n : a ∉ xs) : SqL K H' a l := by
  rcases h with (h | ⟨u, h⟩) | h
  · exact .inl (.inl (o _ _ h n))
  · exact .inl (.inr ⟨u, o _ _ h n⟩)
  · exact .inr h
theorem TapeAt.same {K : PySem.W.Frag} {H H' : Hp} {p : Addr} (h : TapeAt K H p) (s : Same H H') : TapeAt K H' p := by
  obtain ⟨q, ns, i, rest, seed, h1, h2, h3⟩ := h
  exact ⟨q, ns, i, rest, seed, s _ _ h1, s.seq h2, h3⟩
/-- other things than the tape's lists were changed -/
theorem TapeAt.upd {K : PySem.W.Frag} {H : Hp} {p d : Addr} {o u : HO} (h : TapeAt K H p) (hd : H d = some o) (ho : ∀ xs, o ≠ .lst xs) (ho2 : ∀ ob v, o ≠ .frz ob v) : TapeAt K (upd H d u) p := by
  obtain ⟨q, ns, i, rest, seed, h1, h2, h3⟩ := h
  refine ⟨q, ns, i, rest, seed, ?_, ?_, h3⟩
  · rw [upd_ne (ne_of h1 hd (fun z => ho _ z.symm))]; exact h1
  · rcases h2 with (h | ⟨v, h⟩) | h
    · exact .inl (.inl (by rw [upd_ne (ne_of h hd (fun z => ho _ z.symm))]; exact h))
    · exact .inl (.inr ⟨v, by rw [upd_ne (ne_of h hd (fun z => ho2 _ _ z.symm))]; exact h⟩)
    · exact .inr h
theorem TapeAt.lst {K : PySem.W.Frag} {H : Hp} {p : Addr} (h : TapeAt K H p) : ∃ l, H p = some (.lst l) := by
  obtain ⟨q, ns, i, rest, seed, h1, _⟩ := h
  exact ⟨_, h1⟩
theorem TapeAt.tk {K : PySem.W.Frag} {H H' : Hp} {p : Addr} (h : TapeAt K H p) (o : Off [p] H H') : TK H H' := TK.off o fun x hx => by
  cases List.mem_singleton.mp hx
  exact .inl h.lst
def spNext (K : PySem.W.Frag) : Sp := fun vs H Q _ => ∃ (p : Addr) (many : Int), vs = [.ref p, .int many] ∧ TapeAt K H p ∧ 0 < many ∧ many < 1073741824 ∧
  ∀ r H', 0 ≤ r → r < many → Off [p] H H' → TapeAt K H' p → Q (.int r) H'
section
variable {P : Program} {wrl : World} {K : PySem.W.Frag} {mg : Str → Option Value} {base : Heap} {f : Addr} {fd : FuncData}
theorem scNext : FnScope ["tape", "many", "rest", "cell"] ["tape", "many"] (defScope sNext) := ⟨rfl, rfl, rfl, by decide +kernel, rfl, by decide +kernel, by decide +kernel⟩
theorem ok_next (F : Fun K "_law_next" "_law_next" sNext f fd) (B : LB mg) : FnOk P wrl K mg base CX0 1 f fd ["tape", "many"] (spNext K) := by
  refine F.ok scNext (fun vs H Q E h => ?_) (fun cdv A outer s H vs Q E hr h => ?_)
  · obtain ⟨p, many, rfl, _⟩ := h
    rfl
  · obtain ⟨p, many, rfl, ⟨q, ns, i, rest, seed, h1, h2, hne, hre, hs0, hs1⟩, hm0, hm1, k⟩ := h
    refine ⟨_, pss_cons (ps_set (i := 2) scNext.nd rfl (Or.inl rfl) (pe_ix ix_list (pv 0) pe_int (fun _ _ => rfl)))
      (Evl.pss_cut (ps_if (pt_cmpR op_eq (pv 2) pe_int (nomark _))
          (pss_cons (ps_set (i := 3) scNext.nd rfl (Or.inl rfl) pe_int)
          (Evl.pss_cut (ps_if (pt_cmpR op_lt (pe_ix ix_list (pv 0) pe_int (fun _ _ => rfl)) (pe_callB call_len_seq (by rfl) B.len PySem.boot_len (pa_cons (pe_ix ix_list (pv 0) pe_int (fun _ _ => rfl)) pa_nil)) (nomark _))
              (pss_cons (ps_set (i := 3) scNext.nd rfl (Or.inl rfl) (pe_callB call_abs (by rfl) B.abs (by decide +kernel) (pa_cons (pe_callTy call_int1 (by rfl) B.int (by decide +kernel) (pa_cons (pe_ix ix_list (pe_ix ix_list (pv 0) pe_int (fun _ _ => rfl)) (pe_ix ix_list (pv 0) pe_int (fun _ _ => rfl)) (fun _ _ => rfl)) pa_nil)) pa_nil)))
              (pss_one (ps_asg (pe_op op_add (pe_ix ix_list (pv 0) pe_int (fun _ _ => rfl)) pe_int) (pg_sub (pv 0) pe_int set_list)))) pss_nil)
          (pss_cons (ps_set (i := 2) scNext.nd rfl (Or.inl rfl) (pv 3))
          (pss_one (ps_if (pt_cmpR op_lt (pv 3) (pe_op op_pow pe_int pe_int) (nomark _))
              (pss_cons (ps_asg (pe_op op_mod (pe_callTy call_int1 (by rfl) B.int (by decide +kernel) (pa_cons (pe_op op_add (pe_op op_add (pe_op op_mul (pe_ix ix_list (pv 0) pe_int (fun _ _ => rfl)) pe_int) (pe_op op_mul (pv 3) pe_int)) pe_int) pa_nil)) pe_int) (pg_sub (pv 0) pe_int set_list))
              (pss_one (ps_ret (pe_op op_mod (pe_op op_mod (pe_callTy call_int1 (by rfl) B.int (by decide +kernel) (pa_cons (pe_op op_mul (pe_op op_fdiv (pe_ix ix_list (pv 0) pe_int (fun _ _ => rfl)) pe_int) pe_int) pa_nil)) pe_int) (pv 1))))) pss_nil))))) pss_nil)
      (pss_cons (ps_asg (pe_op op_fdiv (pv 2) (pv 1)) (pg_sub (pv 0) pe_int set_list))
      (pss_one (ps_ret (pe_op op_mod (pe_callTy call_int1 (by rfl) B.int (by decide +kernel) (pa_cons (pv 2) pa_nil)) (pv 1)))))), ?_⟩
    refine ⟨_, rfl, p, _, _, _, rfl, rfl, SqL.of h1, atI_nat (j := 2) rfl, ?_⟩
    refine ⟨fun σ H' => ∃ (v3 : Option V) (i' : Nat) (r : Int), σ = [some (.ref p), some (.int many), some (.int r), v3] ∧ H' = upd H p (.lst [.ref q, .int (i' : Int), .int rest, .int seed]) ∧ 0 ≤ r, ?_, ?_⟩
    · refine ⟨_, rfl, rfl, _, rfl, ?_⟩
      refine ite2 (fun hc => ?_) (fun hc => ?_)
      · refine ⟨fun σ H' => ∃ (i' : Nat) (c : Int), σ = [some (.ref p), some (.int many), some (.int rest), some (.int c)] ∧ H' = upd H p (.lst [.ref q, .int (i' : Int), .int rest, .int seed]) ∧ 0 ≤ c, ?_, ?_⟩
        · refine ⟨_, rfl, p, _, _, _, rfl, rfl, SqL.of h1, atI_nat (j := 1) rfl, _, rfl, p, _, _, _, rfl, rfl, SqL.of h1, atI_nat (j := 0) rfl, q, _, rfl, .inl h2, _, _, rfl, rfl, _, rfl, ?_⟩
          refine ite2 (fun hl => ?_) (fun hl => ?_)
          · have hi : i < ns.length := by
              have := of_decide_eq_true hl
              rw [List.length_map] at this
              omega
            refine ⟨_, rfl, p, _, _, _, rfl, rfl, SqL.of h1, atI_nat (j := 0) rfl, _, rfl, p, _, _, _, rfl, rfl, SqL.of h1, atI_nat (j := 1) rfl, q, _, _, V.int ns[i], rfl, rfl, h2, atI_nat (get_map (List.getElem?_eq_getElem hi)), .inl ⟨_, rfl, _, rfl, ?_⟩⟩
            refine ⟨_, rfl, p, _, _, _, rfl, rfl, SqL.of h1, atI_nat (j := 1) rfl, _, _, rfl, rfl, _, rfl, p, _, _, 1, rfl, rfl, h1, rfl, ?_⟩
            exact ⟨i + 1, _, rfl, rfl, by split <;> omega⟩
          · refine ⟨i, 0, ?_, ?_, by decide⟩
            · rfl
            · funext b
              by_cases e : b = p
              · rw [e, upd_same, h1]
              · rw [upd_ne e]
        · rintro σ H' ⟨i', c, rfl, rfl, hc0⟩
          refine ⟨_, rfl, ?_⟩
          refine ⟨_, rfl, _, _, rfl, rfl, ⟨by decide, by decide, by decide⟩, _, _, rfl, rfl, _, rfl, ?_⟩
          refine ite2 (fun hl => ?_) (fun hl => ?_)
          · have hc1 : c < 10 ^ 18 := by
              have := of_decide_eq_true hl
              have e : (10 : Int) ^ (18 : Int).toNat = 10 ^ 18 := rfl
              omega
            refine ⟨_, rfl, p, _, _, _, rfl, rfl, SqL.of upd_same, atI_nat (j := 3) rfl, _, _, rfl, rfl, .inl ⟨by omega, by omega⟩, _, rfl, _, _, rfl, rfl, .inr ⟨by decide, by decide⟩, _, _, rfl, rfl, _, _, rfl, rfl, .inl ⟨_, rfl, ?_⟩⟩
            refine ⟨_, _, rfl, rfl, (by show (0 : Int) < 2147483647; decide), _, rfl, p, _, _, 3, rfl, rfl, upd_same, rfl, ?_⟩
            rw [upd_upd]
            refine ⟨_, rfl, p, _, _, _, rfl, rfl, SqL.of upd_same, atI_nat (j := 3) rfl, _, _, rfl, rfl, ⟨by decide, by decide⟩, _, _, rfl, rfl, .inr ⟨by decide, by decide⟩, .inl ⟨_, rfl, ?_⟩⟩
            refine ⟨_, _, rfl, rfl, (by show (0 : Int) < 2147483647; decide), _, rfl, _, _, rfl, rfl, hm0, ?_⟩
            refine k _ _ (Int.emod_nonneg _ (by omega)) (Int.emod_lt_of_pos _ hm0) (Off.upd (List.mem_singleton.mpr rfl)) ⟨q, ns, i', rest, _, upd_same, sqL_off (Off.upd (List.mem_singleton.mpr rfl)) h2 (by simp [hne]), hne, hre, Int.emod_nonneg _ (by decide), Int.emod_lt_of_pos _ (by decide)⟩
          · exact ⟨_, i', c, rfl, rfl, hc0⟩
      · refine ⟨none, i, rest, ?_, ?_, hre⟩
        · rfl
        · funext b
          by_cases e : b = p
          · rw [e, upd_same, h1]
          · rw [upd_ne e]
    · rintro σ H' ⟨v3, i', r, rfl, rfl, hr0⟩
      refine ⟨_, rfl, _, rfl, _, _, rfl, rfl, ⟨hm0, hm1⟩, _, rfl, p, _, _, 2, rfl, rfl, upd_same, rfl, ?_⟩
      rw [upd_upd]
      refine ⟨_, rfl, .inl ⟨_, rfl, _, rfl, _, _, rfl, rfl, hm0, ?_⟩⟩
      refine k _ _ (Int.emod_nonneg _ (by omega)) (Int.emod_lt_of_pos _ hm0) (Off.upd (List.mem_singleton.mpr rfl)) ⟨q, ns, i', _, seed, upd_same, sqL_off (Off.upd (List.mem_singleton.mpr rfl)) h2 (by simp [hne]), hne, Int.ediv_nonneg hr0 (by omega), hs0, hs1⟩
end
end Sg

set_option Elab.async false
set_option linter.all false
set_option maxRecDepth 100000
set_option maxHeartbeats 4000000
namespace Sg
open PySem PySem.Spec PyProof.Rows L2
/-- o.m(e, ..) in a try's body: what is raised is wished for at the slots as they stand -/
def tMethT (C : Addr) (m : Str) (sp : Sp) (E : L2.St → XK) (ta : TE) (t : TA) : TE := fun σ H Q => ta σ H fun x H1 => ∃ a dx fs, x = .ref a ∧ H1 a = some (.ins C dx fs) ∧ fs.lookup m = Option.none ∧ t σ H1 fun vs H2 => sp (x :: vs) H2 Q (E σ)
theorem pe_methT {X : Cx} {CX : CXT} {k : Nat} {f C : Addr} {fd : FuncData} {ps : List Str} {sp : Sp} {E : L2.St → XK} {m : Str} {pos apos : Pos} {e o : Expr} {es : List Expr} {ta : TE} {t : TA} {pl : Sem Bool} (ho : PE X o ta) (c : Cls X.K C) (hm : Meth X.K C m f)
    (F : FnOk X.prog X.w X.K X.mg X.base CX k f fd ps sp) (hr : Room k X.A) (hb : Binds X.K fd ps []) (hx : ∀ σ, PassesAt CX X σ (E σ)) (ha : PA X (e :: es) t)
    (hst : starEach (e :: es) X.env = (false, eval e X.env) :: starEach es X.env := by rfl) (hpl : (backTo pos (starEach es X.env)).any (·.1) = false := by rfl)
    (ht : eval (.Call (.Attribute o m apos) (e :: es) [] pos) X.env = (do
      let ov ← eval o X.env
      standAt apos.atName
      let (f, first) ← holding [ov] (getMethod ov m pl)
      callWith pos f first (backTo pos (starEach (e :: es) X.env)) (backToKw pos (keywordEach [] X.env))) := by rfl) :
    PE X (.Call (.Attribute o m apos) (e :: es) [] pos) (tMethT C m sp E ta t) := by
  constructor
  intro pins s σ H Q I h
  refine PySem.W.methodCall_KW (pl := pl) (thn (ho.run pins s σ H _ I h) ?_) ht
  rintro u s1 ⟨x, H1, I1, rx, a, dx, fs, rfl, ea, l, q⟩
  obtain rfl : u = Value.ref a := rx
  refine getmeth_ok I1 ea c hm l ?_
  refine PySem.W.callWith_K (first := [.ref a]) (h₀ := X.base) I.ok.mod.kin hm.kp (thn (ha.run pos pins s1 σ H1 _ I1 q) ?_) hst hpl
  rintro us s2 ⟨vs, H2, I2, r, q2⟩
  exact ⟨I2.kIn, run_fnS (us := .ref a :: us) (vs := .ref a :: vs) F hr hb (hx σ) I2 (.cons rfl r) q2⟩
end Sg

set_option Elab.async false
set_option linter.all false
set_option maxRecDepth 100000
set_option maxHeartbeats 4000000
namespace Sg
open PySem PySem.Spec PyProof.Rows L2
/-! ### data of tuples alone -/
mutual
def tupO : PyData → Bool
  | .none => true
  | .bool _ => true
  | .int _ => true
  | .str _ => true
  | .tuple ds => tupOs ds
  | _ => false
def tupOs : List PyData → Bool
  | [] => true
  | d :: ds => tupO d && tupOs ds
end
mutual
theorem dp_tk {K : PySem.W.Frag} {H H' : Hp} (s : TK H H') : ∀ (d : PyData) (x : V), tupO d = true → Dp K H x d → Dp K H' x d
  | .none, _, _, h => by cases h; exact .non
  | .bool _, _, _, h => by cases h; exact .bl _
  | .int _, _, _, h => by cases h; exact .int _
  | .str _, _, _, h => by cases h; exact .str _
  | .tuple ds, _, g, h => by
    have g' : tupOs ds = true := by simpa [tupO] using g
    cases h with
    | tup hs ha => exact .tup (sqT_tk hs s) (dpAll_tk s ds _ g' ha)
  | .list ds, _, g, _ => by simp [tupO] at g
  | .dict _, _, _, h => by cases h
theorem dpAll_tk {K : PySem.W.Frag} {H H' : Hp} (s : TK H H') : ∀ (ds : List PyData) (xs : List V), tupOs ds = true → DpAll K H xs ds → DpAll K H' xs ds
  | [], _, _, h => by cases h; exact .nil
  | d :: ds, _, g, h => by
    have g' : tupO d = true ∧ tupOs ds = true := by simpa [tupOs] using g
    cases h with
    | cons a b => exact .cons (dp_tk s d _ g'.1 a) (dpAll_tk s ds _ g'.2 b)
end
/-- good data: tuples alone, of a small depth -/
structure GD (n : Nat) (d : PyData) : Prop where
  t : tupO d = true
  l : d.canLay0 = true
  dp : d.depth ≤ n
theorem GD.sh {n : Nat} {d : PyData} (h : GD n d) (hn : n ≤ 64) : SeqAt.shaped d = true := shaped_of h.l (Nat.le_trans h.dp hn)
theorem GD.mono {n m : Nat} {d : PyData} (h : GD n d) (hn : n ≤ m) : GD m d := ⟨h.t, h.l, Nat.le_trans h.dp hn⟩
theorem gd_none {n : Nat} : GD n .none := ⟨rfl, by simp [PyData.canLay0], by simp [PyData.depth]⟩
theorem gd_int {n : Nat} {i : Int} : GD n (.int i) := ⟨rfl, by simp [PyData.canLay0], by simp [PyData.depth]⟩
theorem gd_tup3 {n : Nat} {a b c : PyData} (ha : GD n a) (hb : GD n b) (hc : GD n c) : GD (n + 1) (.tuple [a, b, c]) := by
  refine ⟨?_, ?_, ?_⟩
  · simp [tupO, tupOs, ha.t, hb.t, hc.t]
  · simp [PyData.canLay0, PyData.canLayAll0, ha.l, hb.l, hc.l]
  · have := ha.dp; have := hb.dp; have := hc.dp
    simp only [PyData.depth, PyData.depthAll]; omega
theorem gd_tup4 {n : Nat} {a b c d : PyData} (ha : GD n a) (hb : GD n b) (hc : GD n c) (hd : GD n d) : GD (n + 1) (.tuple [a, b, c, d]) := by
  refine ⟨?_, ?_, ?_⟩
  · simp [tupO, tupOs, ha.t, hb.t, hc.t, hd.t]
  · simp [PyData.canLay0, PyData.canLayAll0, ha.l, hb.l, hc.l, hd.l]
  · have := ha.dp; have := hb.dp; have := hc.dp; have := hd.dp
    simp only [PyData.depth, PyData.depthAll]; omega
theorem gd_tup2 {n : Nat} {a b : PyData} (ha : GD n a) (hb : GD n b) : GD (n + 1) (.tuple [a, b]) := by
  refine ⟨?_, ?_, ?_⟩
  · simp [tupO, tupOs, ha.t, hb.t]
  · simp [PyData.canLay0, PyData.canLayAll0, ha.l, hb.l]
  · have := ha.dp; have := hb.dp
    simp only [PyData.depth, PyData.depthAll]; omega
theorem gd_list1 {n : Nat} {a : PyData} (ha : GD n a) (hn : n ≤ 60) : SeqAt.shaped (.list [a]) = true := by
  refine shaped_of ?_ ?_
  · simp [PyData.canLay0, PyData.canLayAll0, ha.l]
  · have := ha.dp
    simp only [PyData.depth, PyData.depthAll]; omega
/-! ### marks -/
structure Mk4 where
  s : Int
  c : Int
  a : PyData
  t : PyData
def mkD (m : Mk4) : PyData := .tuple [.int m.s, .int m.c, m.a, m.t]
structure GM (m : Mk4) : Prop where
  a : GD 1 m.a
  t : GD 2 m.t
theorem GM.d {m : Mk4} (h : GM m) : GD 3 (mkD m) := gd_tup4 gd_int gd_int (h.a.mono (by decide)) h.t
def MkV (K : PySem.W.Frag) (H : Hp) (v : V) (m : Mk4) : Prop := ∃ q av tv, v = .ref q ∧ SqT K H q [.int m.s, .int m.c, av, tv] ∧ Dp K H av m.a ∧ Dp K H tv m.t
theorem MkV.dp {K : PySem.W.Frag} {H : Hp} {v : V} {m : Mk4} (h : MkV K H v m) : Dp K H v (mkD m) := by
  obtain ⟨q, av, tv, rfl, h1, h2, h3⟩ := h
  exact .tup h1 (.cons (.int _) (.cons (.int _) (.cons h2 (.cons h3 .nil))))
theorem MkV.tk {K : PySem.W.Frag} {H H' : Hp} {v : V} {m : Mk4} (h : MkV K H v m) (g : GM m) (s : TK H H') : MkV K H' v m := by
  obtain ⟨q, av, tv, rfl, h1, h2, h3⟩ := h
  exact ⟨q, av, tv, rfl, sqT_tk h1 s, dp_tk s _ _ g.a.t h2, dp_tk s _ _ g.t.t h3⟩
abbrev MS := List (Int × Mk4)
def lk (ms : MS) (h : Int) : Option Mk4 := (ms.find? fun x => decide (x.1 = h)).map (·.2)
def pt (ms : MS) (h : Int) (m : Mk4) : MS := if (ms.any fun x => decide (x.1 = h)) = true then ms.map fun x => if x.1 = h then (x.1, m) else x else ms ++ [(h, m)]
def MR1 (K : PySem.W.Frag) (H : Hp) (kv : Key × V) (x : Int × Mk4) : Prop := kv.1 = Sum.inl x.1 ∧ MkV K H kv.2 x.2 ∧ GM x.2
/-- a dict of marks -/
def MD (K : PySem.W.Frag) (H : Hp) (d : Addr) (ms : MS) : Prop := ∃ kvs : List (Key × V), H d = some (.dK kvs) ∧ Paired (MR1 K H) kvs ms
section
variable {K : PySem.W.Frag} {H H' : Hp}
theorem pr_len {F : Key × V → Int × Mk4 → Prop} {kvs : List (Key × V)} {ms : MS} (h : Paired F kvs ms) : kvs.length = ms.length := by
  induction h with
  | nil => rfl
  | cons _ _ ih => rw [List.length_cons, List.length_cons, ih]
theorem pr_get {kvs : List (Key × V)} {ms : MS} (h : Paired (MR1 K H) kvs ms) (i : Int) : (lk ms i = none ∧ valV kvs (Sum.inl i) = none) ∨ ∃ m v, lk ms i = some m ∧ valV kvs (Sum.inl i) = some v ∧ MkV K H v m ∧ GM m := by
  induction h with
  | nil => exact .inl ⟨rfl, rfl⟩
  | @cons p x ps xs r _ ih =>
    obtain ⟨k, v⟩ := p
    obtain ⟨j, m⟩ := x
    obtain ⟨r1, r2, r3⟩ := r
    have r1' : k = Sum.inl j := r1
    subst r1'
    by_cases e : j = i
    · subst e
      refine .inr ⟨m, v, ?_, ?_, r2, r3⟩
      · simp [lk, List.find?_cons]
      · simp [valV, List.find?_cons]
    · have e' : ¬ (Sum.inl j : Key) = Sum.inl i := fun z => e (by cases z; rfl)
      have f1 : lk ((j, m) :: xs) i = lk xs i := by simp [lk, List.find?_cons, e]
      have f2 : valV ((Sum.inl j, v) :: ps) (Sum.inl i) = valV ps (Sum.inl i) := by simp [valV, List.find?_cons, e']
      rw [f1, f2]
      exact ih
theorem pr_any {F : Key × V → Int × Mk4 → Prop} {kvs : List (Key × V)} {ms : MS} (h : Paired F kvs ms) (hf : ∀ p x, F p x → p.1 = Sum.inl x.1) (i : Int) : (kvs.any fun kv => decide (kv.1 = (Sum.inl i : Key))) = (ms.any fun x => decide (x.1 = i)) := by
  induction h with
  | nil => rfl
  | @cons p x ps xs r _ ih =>
    rw [List.any_cons, List.any_cons, ih, hf _ _ r]
    congr 1
    by_cases e : x.1 = i
    · rw [decide_eq_true e, decide_eq_true (by rw [e])]
    · rw [decide_eq_false e, decide_eq_false (fun z => e (by cases z; rfl))]
theorem pr_put {kvs : List (Key × V)} {ms : MS} (h : Paired (MR1 K H) kvs ms) {i : Int} {v : V} {m : Mk4} (hv : MkV K H v m) (g : GM m) : Paired (MR1 K H) (putK kvs (Sum.inl i) v) (pt ms i m) := by
  unfold putK pt
  rw [pr_any h (fun p x r => r.1) i]
  by_cases c : (ms.any fun x => decide (x.1 = i)) = true
  · rw [if_pos c, if_pos c]
    clear c
    induction h with
    | nil => exact .nil
    | @cons p x ps xs r _ ih =>
      rw [List.map_cons, List.map_cons]
      refine .cons ?_ ih
      by_cases e : x.1 = i
      · rw [if_pos e, if_pos (by rw [r.1, e])]
        exact ⟨r.1, hv, g⟩
      · rw [if_neg e, if_neg (fun z => e (by rw [r.1] at z; cases z; rfl))]
        exact r
  · rw [if_neg c, if_neg c]
    induction h with
    | nil => exact .cons ⟨rfl, hv, g⟩ .nil
    | @cons p x ps xs r _ ih =>
      rw [List.cons_append, List.cons_append]
      refine .cons r (ih fun z => c ?_)
      rw [List.any_cons, z, Bool.or_true]
theorem pr_tk {kvs : List (Key × V)} {ms : MS} (h : Paired (MR1 K H) kvs ms) (s : TK H H') : Paired (MR1 K H') kvs ms := by
  induction h with
  | nil => exact .nil
  | cons r _ ih => exact .cons ⟨r.1, r.2.1.tk r.2.2 s, r.2.2⟩ ih
theorem pt_len (ms : MS) (i : Int) (m : Mk4) : (pt ms i m).length ≤ ms.length + 1 := by
  unfold pt
  split
  · rw [List.length_map]; omega
  · rw [List.length_append]; simp
theorem putK_len (kvs : List (Key × V)) (k : Key) (v : V) : (putK kvs k v).length ≤ kvs.length + 1 := by
  unfold putK
  split
  · rw [List.length_map]; omega
  · rw [List.length_append]; simp
theorem MD.tk {d : Addr} {ms : MS} {xs : List Addr} (h : MD K H d ms) (o : Off xs H H') (s : TK H H') (n : d ∉ xs) : MD K H' d ms := by
  obtain ⟨kvs, h1, h2⟩ := h
  exact ⟨kvs, o _ _ h1 n, pr_tk h2 s⟩
theorem MD.same {d : Addr} {ms : MS} (h : MD K H d ms) (s : Same H H') : MD K H' d ms := h.tk (Off.of (xs := []) s) (TK.of s) (by simp)
theorem MD.ob {d : Addr} {ms : MS} (h : MD K H d ms) : ∃ kvs, H d = some (.dK kvs) := by
  obtain ⟨kvs, h1, _⟩ := h
  exact ⟨kvs, h1⟩
/-- d[h] = v -/
theorem MD.put {d : Addr} {ms : MS} {kvs : List (Key × V)} {i : Int} {v : V} {m : Mk4} (h : H d = some (.dK kvs)) (p : Paired (MR1 K H) kvs ms) (hv : MkV K H v m) (g : GM m) :
    MD K (upd H d (.dK (putK kvs (Sum.inl i) v))) d (pt ms i m) ∧ TK H (upd H d (.dK (putK kvs (Sum.inl i) v))) := by
  have tk : TK H (upd H d (.dK (putK kvs (Sum.inl i) v))) := TK.off (xs := [d]) (Off.upd (List.mem_singleton.mpr rfl)) fun x hx => by
    rw [List.mem_singleton.mp hx]; exact .inr ⟨_, h⟩
  exact ⟨⟨_, upd_same, pr_put (pr_tk p tk) (hv.tk g tk) g⟩, tk⟩
theorem lk_pt (ms : MS) (i : Int) (m : Mk4) : lk (pt ms i m) i = some m := by
  unfold pt
  by_cases c : (ms.any fun x => decide (x.1 = i)) = true
  · rw [if_pos c]
    induction ms with
    | nil => simp at c
    | cons x xs ih =>
      rw [List.map_cons]
      by_cases e : x.1 = i
      · rw [if_pos e]; simp [lk, List.find?_cons, e]
      · rw [if_neg e]
        have : (xs.any fun x => decide (x.1 = i)) = true := by simpa [e] using c
        have f : lk (x :: xs.map fun x => if x.1 = i then (x.1, m) else x) i = lk (xs.map fun x => if x.1 = i then (x.1, m) else x) i := by simp [lk, List.find?_cons, e]
        rw [f]; exact ih this
  · rw [if_neg c]
    induction ms with
    | nil => simp [lk, List.find?_cons]
    | cons x xs ih =>
      have c' : ¬ x.1 = i ∧ ¬ (xs.any fun x => decide (x.1 = i)) = true := by
        constructor
        · intro e; exact c (by simp [e])
        · intro e; exact c (by rw [List.any_cons, e, Bool.or_true])
      rw [List.cons_append]
      have f : lk (x :: (xs ++ [(i, m)])) i = lk (xs ++ [(i, m)]) i := by simp [lk, List.find?_cons, c'.1]
      rw [f]; exact ih c'.2
theorem lk_pt_ne (ms : MS) {i j : Int} (m : Mk4) (ne : ¬ i = j) : lk (pt ms i m) j = lk ms j := by
  unfold pt
  split
  · induction ms with
    | nil => rfl
    | cons x xs ih =>
      rename_i c
      rw [List.map_cons]
      by_cases e : x.1 = j
      · have : ¬ x.1 = i := fun z => ne (by rw [← z, e])
        rw [if_neg this]; simp [lk, List.find?_cons, e]
      · have f : lk (x :: xs) j = lk xs j := by simp [lk, List.find?_cons, e]
        have f2 : ∀ y : Int × Mk4, ¬ y.1 = j → lk (y :: xs.map fun x => if x.1 = i then (x.1, m) else x) j = lk (xs.map fun x => if x.1 = i then (x.1, m) else x) j := fun y hy => by simp [lk, List.find?_cons, hy]
        rw [f, f2 _ (by by_cases z : x.1 = i <;> simp [z] <;> first | exact ne | (rw [← z]; exact e) | exact e)]
        by_cases c2 : (xs.any fun x => decide (x.1 = i)) = true
        · exact ih c2
        · have : ∀ ys : MS, ¬ (ys.any fun x => decide (x.1 = i)) = true → (ys.map fun x => if x.1 = i then (x.1, m) else x) = ys := by
            intro ys
            induction ys with
            | nil => intro _; rfl
            | cons y ys ih2 =>
              intro hh
              have h1 : ¬ y.1 = i := fun z => hh (by simp [z])
              rw [List.map_cons, if_neg h1, ih2 fun z => hh (by rw [List.any_cons, z, Bool.or_true])]
          rw [this xs c2]
  · induction ms with
    | nil => simp [lk, List.find?_cons, ne]
    | cons x xs ih =>
      rename_i c
      have c' : ¬ (xs.any fun x => decide (x.1 = i)) = true := fun z => c (by rw [List.any_cons, z, Bool.or_true])
      rw [List.cons_append]
      by_cases e : x.1 = j
      · simp [lk, List.find?_cons, e]
      · have f : lk (x :: (xs ++ [(i, m)])) j = lk (xs ++ [(i, m)]) j := by simp [lk, List.find?_cons, e]
        have f2 : lk (x :: xs) j = lk xs j := by simp [lk, List.find?_cons, e]
        rw [f, f2]; exact ih c'
end
/-! ### what is answered -/
abbrev BS := List (Key × V)
def opn (bs : BS) (h : Int) : Bool := (valV bs (Sum.inl h)).isSome
def connS (ms : MS) (h n : Int) : Str := match lk ms h with
  | none => "new"
  | some m => if m.s < n then "new" else if n = m.s then "again" else "old"
def ntD (ms : MS) (h : Int) : PyData := match lk ms h with
  | none => .none
  | some m => if m.c = 0 then m.t else .tuple [.int m.s, .int m.c, m.a]
def kindS (ms : MS) (bs : BS) (h s c : Int) : Str := if opn bs h = false then "lost" else match lk ms h with
  | none => ""
  | some m => if s < m.s ∨ (s = m.s ∧ c < m.c) then "old" else if m.s < s ∨ m.c + 1 < c then "early" else if c = m.c then "again" else "next"
def keptD (ms : MS) (bs : BS) (h s c : Int) : PyData := if opn bs h = false ∨ c = 0 then .none else match lk ms h with
  | none => .none
  | some m => if s = m.s ∧ c = m.c then m.a else .none
/-- who is open has a mark -/
def Cov (ms : MS) (bs : BS) : Prop := ∀ h, opn bs h = true → ∃ m, lk ms h = some m
theorem opn_put (bs : BS) (i j : Int) (v : V) : opn (putK bs (Sum.inl i) v) j = (decide (j = i) || opn bs j) := by
  unfold opn
  rw [valV_put]
  by_cases e : j = i
  · subst e; simp
  · rw [if_neg (fun z => e (by cases z; rfl))]; simp [e]
end Sg

set_option Elab.async false
set_option linter.all false
set_option maxRecDepth 100000
set_option maxHeartbeats 4000000
namespace Sg
open PySem PySem.Spec PyProof.Rows L2
/-- what is known of the error -/
structure NV (K : PySem.W.Frag) (mg : Str → Option Value) (CN CS : Addr) : Prop where
  gN : mg "NotValid" = some (.ref CN)
  xN : PySem.W.excIn K CN [.type "ValueError", .type "Exception", .type "BaseException", .type "object"] "ValueError.__new__" = true
  kN : PySem.W.keepIn K (.ref CN) = true
  bN : PySem.W.subIn K (.ref CN) (.type "BaseException") = some true
  tN : PySem.W.typeIn K (.ref CN) = some (.type "type")
  gS : mg "SpindleError" = some (.ref CS)
  eN : PySem.W.exmOne K (.ref CN) (.ref CS) = some true
theorem ps_notValid {X : Cx} {W : WX} {p pos pos2 : Pos} {CN CS : Addr} (T : NV X.K X.mg CN CS) (hc : X.calm = true) (tk : Takes X W) (hg : Gl X "NotValid") : PS X (.Raise (some (.Call (.Name "NotValid" p) [] [] pos)) none pos2) (fun _ σ H => W (.ref CN) Option.none σ H) :=
  ps_raise hc tk (pmk_own0 PySem.F.excBase_ValueError T.xN T.gN T.kN (raises_own T.bN T.tN) hg)
def sf (dm db : Addr) : List (Str × V) := [("_marks", .ref dm), ("_begun", .ref db)]
theorem sf_m {dm db : Addr} : (sf dm db).lookup ("_marks" : Str) = some (.ref dm) := lk_here
theorem sf_b {dm db : Addr} : (sf dm db).lookup ("_begun" : Str) = some (.ref db) := (lk_past (by decide +kernel)).trans lk_here
theorem sf_no {dm db : Addr} {m : Str} (q : [("_marks" : Str), "_begun"].all (fun g => !(m == g)) = true) : (sf dm db).lookup m = Option.none := by
  simp only [List.all_cons, List.all_nil, Bool.and_true, Bool.and_eq_true, Bool.not_eq_true'] at q
  exact (lk_past q.1).trans ((lk_past q.2).trans rfl)
theorem sf_new {dm db : Addr} : putF "_begun" (.ref db) (putF "_marks" (.ref dm) []) = sf dm db := (put_past (by decide +kernel)).trans rfl
structure ST (K : PySem.W.Frag) (mg : Str → Option Value) (C : Addr) : Prop where
  cl : Cls K C
  n1 : NoAttr K C "_marks"
  n2 : NoAttr K C "_begun"
  gC : mg "Sessions" = some (.ref C)
/-- sessions with the marks ms and the open hosts bs -/
structure SA (K : PySem.W.Frag) (C : Addr) (H : Hp) (p dm db : Addr) (ms : MS) (bs : BS) : Prop where
  ob : ∃ dx, H p = some (.ins C dx (sf dm db))
  md : MD K H dm ms
  bd : H db = some (.dK bs)
  ne : dm ≠ db
  cv : Cov ms bs
  n1 : ms.length ≤ 900
  n2 : bs.length ≤ 900
theorem dget (H : Hp) {d : Addr} {kvs : List (Key × V)} {h : Int} (e : H d = some (.dK kvs)) : DGet H d (.int h) (valV kvs (Sum.inl h)) := DGet.k (k := Sum.inl h) e
def spMark (K : PySem.W.Frag) (C : Addr) : Sp := fun vs H Q _ => ∃ p dm db ms bs h, vs = [.ref p, .int h] ∧ SA K C H p dm db ms bs ∧ (lk ms h = none → Q .non H) ∧ (∀ m v, lk ms h = some m → MkV K H v m → GM m → Q v H)
def spOpen (K : PySem.W.Frag) (C : Addr) : Sp := fun vs H Q _ => ∃ p dm db ms bs h, vs = [.ref p, .int h] ∧ SA K C H p dm db ms bs ∧ Q (.bl (opn bs h)) H
def spConnM (K : PySem.W.Frag) (C : Addr) : Sp := fun vs H Q _ => ∃ p dm db ms bs h n, vs = [.ref p, .int h, .int n] ∧ SA K C H p dm db ms bs ∧ Q (.str (connS ms h n)) H
def spNextM (K : PySem.W.Frag) (C : Addr) : Sp := fun vs H Q _ => ∃ p dm db ms bs h, vs = [.ref p, .int h] ∧ SA K C H p dm db ms bs ∧ ∀ v H', Same H H' → Dp K H' v (ntD ms h) → Q v H'
def spKindM (K : PySem.W.Frag) (C : Addr) : Sp := fun vs H Q _ => ∃ p dm db ms bs h s c, vs = [.ref p, .int h, .int s, .int c] ∧ SA K C H p dm db ms bs ∧ Q (.str (kindS ms bs h s c)) H
def spKeptM (K : PySem.W.Frag) (C : Addr) : Sp := fun vs H Q _ => ∃ p dm db ms bs h s c, vs = [.ref p, .int h, .int s, .int c] ∧ SA K C H p dm db ms bs ∧ ∀ v H', Same H H' → Dp K H' v (keptD ms bs h s c) → Q v H'
def spBeginM (K : PySem.W.Frag) (C CN : Addr) : Sp := fun vs H Q E => ∃ p dm db ms bs h n, vs = [.ref p, .int h, .int n] ∧ SA K C H p dm db ms bs ∧ ms.length < 900 ∧ bs.length < 900 ∧ (¬ connS ms h n = "new" → E (.ref CN) Option.none H) ∧
  (connS ms h n = "new" → ∀ v H', Off [dm, db] H H' → TK H H' → SA K C H' p dm db (pt ms h ⟨n, 0, .none, ntD ms h⟩) (putK bs (Sum.inl h) (.bl true)) → Dp K H' v (ntD ms h) → Q v H')
def spKeepM (K : PySem.W.Frag) (C CN : Addr) : Sp := fun vs H Q E => ∃ p dm db ms bs h av ad, vs = [.ref p, .int h, av] ∧ SA K C H p dm db ms bs ∧ ms.length < 900 ∧ Dp K H av ad ∧ GD 1 ad ∧ (opn bs h = false → E (.ref CN) Option.none H) ∧
  (opn bs h = true → ∀ m H', lk ms h = some m → Off [dm] H H' → TK H H' → SA K C H' p dm db (pt ms h ⟨m.s, m.c + 1, ad, m.t⟩) bs → Q .non H')
section
variable {P : Program} {wd : World} {K : PySem.W.Frag} {mg : Str → Option Value} {base : Heap} {f f1 f2 C CN CS : Addr} {fd fd1 fd2 : FuncData}
theorem SA.tk {H H' : Hp} {p dm db : Addr} {ms : MS} {bs : BS} {xs : List Addr} (h : SA K C H p dm db ms bs) (o : Off xs H H') (s : TK H H') (d : ∀ x ∈ xs, x ≠ p ∧ x ≠ dm ∧ x ≠ db) : SA K C H' p dm db ms bs := by
  obtain ⟨dx, hp⟩ := h.ob
  exact ⟨⟨dx, o _ _ hp fun m => (d _ m).1 rfl⟩, h.md.tk o s fun m => (d _ m).2.1 rfl, o _ _ h.bd fun m => (d _ m).2.2 rfl, h.ne, h.cv, h.n1, h.n2⟩
theorem SA.same {H H' : Hp} {p dm db : Addr} {ms : MS} {bs : BS} (h : SA K C H p dm db ms bs) (s : Same H H') : SA K C H' p dm db ms bs := h.tk (Off.of (xs := []) s) (TK.of s) (by simp)
theorem nt_gd {ms : MS} {h : Int} (g : ∀ m, lk ms h = some m → GM m) : GD 2 (ntD ms h) := by
  unfold ntD
  cases e : lk ms h with
  | none => exact gd_none
  | some m =>
    have gm := g m e
    show GD 2 (if m.c = 0 then m.t else .tuple [.int m.s, .int m.c, m.a])
    by_cases c : m.c = 0
    · rw [if_pos c]; exact gm.t
    · rw [if_neg c]; exact gd_tup3 gd_int gd_int gm.a
theorem MD.gm {H : Hp} {d : Addr} {ms : MS} (h : MD K H d ms) {i : Int} {m : Mk4} (e : lk ms i = some m) : GM m := by
  obtain ⟨kvs, h1, h2⟩ := h
  rcases pr_get h2 i with ⟨z, _⟩ | ⟨m', v, z, _, _, g⟩
  · rw [z] at e; cases e
  · rw [z] at e; cases e; exact g
theorem scMark : FnScope ["self", "host"] ["self", "host"] (defScope (cS 1)) := ⟨rfl, rfl, rfl, by decide +kernel, rfl, by decide +kernel, by decide +kernel⟩
theorem ok_mark (F : Fun K "mark_of" "Sessions.mark_of" (cS 1) f fd) (Tx : ST K mg C) : FnOk P wd K mg base CX0 1 f fd ["self", "host"] (spMark K C) := by
  refine F.ok scMark (fun vs H Q E h => ?_) (fun cdv A outer s H vs Q E hr h => ?_)
  · obtain ⟨p, dm, db, ms, bs, h, rfl, _⟩ := h
    rfl
  · obtain ⟨p, dm, db, ms, bs, h, rfl, S, q1, q2⟩ := h
    refine ⟨_, (pss_one (ps_ret (pe_dget1 (hu_of hr) (pe_fld (pv 0) rfl) (pv 1) ⟨rfl, rfl, rfl, rfl⟩))), ?_⟩
    obtain ⟨dx, hp⟩ := S.ob
    obtain ⟨kvs, hd, pr⟩ := S.md
    refine ⟨_, rfl, p, C, dx, _, _, rfl, hp, Tx.cl, Tx.n1, sf_m, dm, rfl, .inl ⟨kvs, .inl hd⟩, _, rfl, _, dget H hd, ?_⟩
    rcases pr_get pr h with ⟨e1, e2⟩ | ⟨m, v, e1, e2, hv, g⟩
    · rw [e2]; exact q1 e1
    · rw [e2]; exact q2 m v e1 hv g
theorem scOpen : FnScope ["self", "host"] ["self", "host"] (defScope (cS 2)) := ⟨rfl, rfl, rfl, by decide +kernel, rfl, by decide +kernel, by decide +kernel⟩
theorem ok_open (F : Fun K "is_open" "Sessions.is_open" (cS 2) f fd) (Tx : ST K mg C) : FnOk P wd K mg base CX0 1 f fd ["self", "host"] (spOpen K C) := by
  refine F.ok scOpen (fun vs H Q E h => ?_) (fun cdv A outer s H vs Q E hr h => ?_)
  · obtain ⟨p, dm, db, ms, bs, h, rfl, _⟩ := h
    rfl
  · obtain ⟨p, dm, db, ms, bs, h, rfl, S, q⟩ := h
    refine ⟨_, (pss_one (ps_ret (pe_cmp (pc_din (hu_of hr) (pv 1) (pe_fld (pv 0) rfl)) rfl))), ?_⟩
    obtain ⟨dx, hp⟩ := S.ob
    exact ⟨_, rfl, _, rfl, p, C, dx, _, _, rfl, hp, Tx.cl, Tx.n2, sf_b, db, _, rfl, dget H S.bd, q⟩
theorem scConnM : FnScope ["self", "host", "number", "mark"] ["self", "host", "number"] (defScope (cS 3)) := ⟨rfl, rfl, rfl, by decide +kernel, rfl, by decide +kernel, by decide +kernel⟩
theorem ok_connM (F : Fun K "connecting" "Sessions.connecting" (cS 3) f fd) (Tx : ST K mg C) (Gm : Mth P wd K mg base CX0 C "mark_of" 1 ["self", "host"] (spMark K C) f1 fd1) : FnOk P wd K mg base CX0 2 f fd ["self", "host", "number"] (spConnM K C) := by
  refine F.ok scConnM (fun vs H Q E h => ?_) (fun cdv A outer s H vs Q E hr h => ?_)
  · obtain ⟨p, dm, db, ms, bs, h, n, rfl, _⟩ := h
    rfl
  · obtain ⟨p, dm, db, ms, bs, h, n, rfl, S, q⟩ := h
    refine ⟨_, (pss_cons (ps_set (i := 3) scConnM.nd rfl (Or.inl rfl) (pe_meth (pv 0) Tx.cl Gm.me Gm.ok hr Gm.bd .nil pass0 (pa_cons (pv 1) pa_nil)))
      (pss_cons (ps_if (PW.pt (pw_or (pt_cmpR op_isN (pv 3) pe_non (nomark _)) (pw_or1 (pt_cmpR op_gt (pv 2) (pe_ix ix_tup (pv 3) pe_int (fun _ _ => rfl)) (nomark _)))))
      (pss_one (ps_ret pe_str)) pss_nil)
      (pss_one (ps_ret (pe_ifExp (pt_cmpR op_eq (pv 2) (pe_ix ix_tup (pv 3) pe_int (fun _ _ => rfl)) (nomark _)) pe_str pe_str))))), ?_⟩
    obtain ⟨dx, hp⟩ := S.ob
    unfold connS at q
    refine ⟨_, rfl, p, dx, _, rfl, hp, sf_no (by decide +kernel), _, rfl, p, dm, db, ms, bs, h, rfl, S, fun e => ?_, fun m v e hv g => ?_⟩
    · rw [e] at q
      exact ⟨_, rfl, rfl, _, rfl, iteT (iteT q)⟩
    · rw [e] at q
      obtain ⟨a, av, tv, rfl, h1, _⟩ := hv
      refine ⟨_, rfl, rfl, _, rfl, ?_⟩
      rw [decide_eq_false (show ¬ V.ref a = V.non by intro z; cases z)]
      refine iteF ⟨_, rfl, _, rfl, a, _, _, _, rfl, rfl, h1, atI_nat (j := 0) rfl, _, _, rfl, rfl, _, rfl, ?_⟩
      by_cases c : m.s < n
      · rw [decide_eq_true c]
        exact iteT (show Q (.str "new") H from by simpa [c] using q)
      · rw [decide_eq_false c]
        refine iteF ⟨_, rfl, _, rfl, a, _, _, _, rfl, rfl, h1, atI_nat (j := 0) rfl, rfl, _, rfl, ?_⟩
        by_cases c2 : n = m.s
        · subst c2
          rw [decide_eq_true (show V.int m.s = V.int m.s from rfl)]
          exact iteT (show Q (.str "again") H from by simpa using q)
        · rw [decide_eq_false (fun z => c2 (by injection z))]
          exact iteF (show Q (.str "old") H from by simpa [c, c2] using q)
theorem scNextM : FnScope ["self", "host", "mark", "session", "counter", "answer", "told"] ["self", "host"] (defScope (cS 4)) := ⟨rfl, rfl, rfl, by decide +kernel, rfl, by decide +kernel, by decide +kernel⟩
theorem ok_nextM (F : Fun K "next_told" "Sessions.next_told" (cS 4) f fd) (Tx : ST K mg C) (Gm : Mth P wd K mg base CX0 C "mark_of" 1 ["self", "host"] (spMark K C) f1 fd1) : FnOk P wd K mg base CX0 2 f fd ["self", "host"] (spNextM K C) := by
  refine F.ok scNextM (fun vs H Q E h => ?_) (fun cdv A outer s H vs Q E hr h => ?_)
  · obtain ⟨p, dm, db, ms, bs, h, rfl, _⟩ := h
    rfl
  · obtain ⟨p, dm, db, ms, bs, h, rfl, S, q⟩ := h
    refine ⟨_, (pss_cons (ps_set (i := 2) scNextM.nd rfl (Or.inl rfl) (pe_meth (pv 0) Tx.cl Gm.me Gm.ok hr Gm.bd .nil pass0 (pa_cons (pv 1) pa_nil)))
      (pss_cons (ps_if (pt_cmpR op_isN (pv 2) pe_non (nomark _))
      (pss_one (ps_ret pe_non)) pss_nil)
      (pss_cons (ps_asg (pv 2) (pg_tup (by rfl) (pgs_cons (pg_name (i := 3) scNextM.nd rfl (Or.inl rfl)) (pgs_cons (pg_name (i := 4) scNextM.nd rfl (Or.inl rfl)) (pgs_cons (pg_name (i := 5) scNextM.nd rfl (Or.inl rfl)) (pgs_cons (pg_name (i := 6) scNextM.nd rfl (Or.inl rfl)) L2.pgs_nil))))))
      (pss_one (ps_ret (pe_ifExp (pt_cmpR op_eq (pv 4) pe_int (nomark _)) (pv 6) (pe_tup (pa_cons (pv 3) (pa_cons (pv 4) (pa_cons (pv 5) pa_nil)))))))))), ?_⟩
    obtain ⟨dx, hp⟩ := S.ob
    unfold ntD at q
    refine ⟨_, rfl, p, dx, _, rfl, hp, sf_no (by decide +kernel), _, rfl, p, dm, db, ms, bs, h, rfl, S, fun e => ?_, fun m v e hv g => ?_⟩
    · rw [e] at q
      exact ⟨_, rfl, rfl, _, rfl, iteT (q _ H (Same.refl H) .non)⟩
    · rw [e] at q
      have q' : ∀ v H', Same H H' → Dp K H' v (if m.c = 0 then m.t else .tuple [.int m.s, .int m.c, m.a]) → Q v H' := q
      obtain ⟨a, av, tv, rfl, h1, h2, h3⟩ := hv
      refine ⟨_, rfl, rfl, _, rfl, ?_⟩
      rw [decide_eq_false (show ¬ V.ref a = V.non by intro z; cases z)]
      refine iteF ⟨_, rfl, a, _, rfl, h1, rfl, _, _, rfl, _, _, rfl, _, _, rfl, _, _, rfl, rfl, _, rfl, rfl, _, rfl, ?_⟩
      by_cases c : m.c = 0
      · rw [decide_eq_true (show V.int m.c = V.int 0 by rw [c])]
        rw [if_pos c] at q'
        exact iteT ⟨_, rfl, q' _ H (Same.refl H) h3⟩
      · rw [decide_eq_false (fun z => c (by injection z))]
        rw [if_neg c] at q'
        refine iteF ⟨_, rfl, _, rfl, _, rfl, by show 3 ≤ sizeLine; decide, fun t ht => ?_⟩
        exact q' _ _ (same_new ht) (.tup (SqT.of upd_same) (.cons (.int _) (.cons (.int _) (.cons (dp_same (same_new ht) _ _ h2) .nil))))
end
end Sg

set_option Elab.async false
set_option linter.all false
set_option maxRecDepth 100000
set_option maxHeartbeats 4000000
namespace Sg
open PySem PySem.Spec PyProof.Rows L2
section
variable {P : Program} {wd : World} {K : PySem.W.Frag} {mg : Str → Option Value} {base : Heap} {f f1 f2 C CN CS : Addr} {fd fd1 fd2 : FuncData}
theorem kind_lost {ms : MS} {bs : BS} {h s c : Int} (e : opn bs h = false) : kindS ms bs h s c = "lost" := if_pos e
theorem kind_some {ms : MS} {bs : BS} {h s c : Int} {m : Mk4} (e : opn bs h = true) (e2 : lk ms h = some m) : kindS ms bs h s c = (if s < m.s ∨ (s = m.s ∧ c < m.c) then ("old" : Str) else if m.s < s ∨ m.c + 1 < c then ("early" : Str) else if c = m.c then ("again" : Str) else ("next" : Str)) := by
  unfold kindS
  rw [if_neg (by rw [e]; decide), e2]
theorem scKindM : FnScope ["self", "host", "session", "counter", "present", "last", "_"] ["self", "host", "session", "counter"] (defScope (cS 6)) := ⟨rfl, rfl, rfl, by decide +kernel, rfl, by decide +kernel, by decide +kernel⟩
theorem ok_kindM (F : Fun K "kind_of" "Sessions.kind_of" (cS 6) f fd) (Tx : ST K mg C) (Go : Mth P wd K mg base CX0 C "is_open" 1 ["self", "host"] (spOpen K C) f1 fd1) : FnOk P wd K mg base CX0 2 f fd ["self", "host", "session", "counter"] (spKindM K C) := by
  refine F.ok scKindM (fun vs H Q E h => ?_) (fun cdv A outer s H vs Q E hr h => ?_)
  · obtain ⟨p, dm, db, ms, bs, h, s, c, rfl, _⟩ := h
    rfl
  · obtain ⟨p, dm, db, ms, bs, h, ss, c, rfl, S, q⟩ := h
    refine ⟨_, (pss_cons (ps_if (pt_not (pt_val (pe_meth (pv 0) Tx.cl Go.me Go.ok hr Go.bd .nil pass0 (pa_cons (pv 1) pa_nil))))
      (pss_one (ps_ret pe_str)) pss_nil)
      (pss_cons (ps_asg (pe_dget (hu_of hr) (pe_fld (pv 0) rfl) (pv 1) (fun _ _ => rfl)) (pg_tup (by rfl) (pgs_cons (pg_name (i := 4) scKindM.nd rfl (Or.inl rfl)) (pgs_cons (pg_name (i := 5) scKindM.nd rfl (Or.inl rfl)) (pgs_cons (pg_name (i := 6) scKindM.nd rfl (Or.inl rfl)) (pgs_cons (pg_name (i := 6) scKindM.nd rfl (Or.inl rfl)) L2.pgs_nil))))))
      (Evl.pss_cut (ps_if (PW.pt (pw_or (pt_cmpR op_lt (pv 2) (pv 4) (nomark _)) (pw_or1 (PW.pt (pw_and (pt_cmpR op_eq (pv 2) (pv 4) (nomark _)) (pw_and1 (pt_cmpR op_lt (pv 3) (pv 5) (nomark _))))))))
      (pss_one (ps_ret pe_str)) pss_nil)
      (Evl.pss_cut (ps_if (PW.pt (pw_or (pt_cmpR op_gt (pv 2) (pv 4) (nomark _)) (pw_or1 (pt_cmpR op_gt (pv 3) (pe_op op_add (pv 5) pe_int) (nomark _)))))
      (pss_one (ps_ret pe_str)) pss_nil)
      (pss_one (ps_ret (pe_ifExp (pt_cmpR op_eq (pv 3) (pv 5) (nomark _)) pe_str pe_str))))))), ?_⟩
    obtain ⟨dx, hp⟩ := S.ob
    obtain ⟨kvs, hd, pr⟩ := S.md
    refine ⟨_, rfl, p, dx, _, rfl, hp, sf_no (by decide +kernel), _, rfl, p, dm, db, ms, bs, h, rfl, S, _, rfl, ?_⟩
    cases ho : opn bs h with
    | false => rw [kind_lost ho] at q; exact iteT q
    | true =>
      obtain ⟨m, hm⟩ := S.cv h ho
      rw [kind_some ho hm] at q
      rcases pr_get pr h with ⟨z, _⟩ | ⟨m', v, z, e2, hv, g⟩
      · rw [z] at hm; cases hm
      rw [hm] at z; cases z
      obtain ⟨a, av, tv, rfl, h1, h2, h3⟩ := hv
      refine iteF ⟨_, rfl, p, C, dx, _, _, rfl, hp, Tx.cl, Tx.n1, sf_m, _, rfl, dm, _, rfl, (by rw [← e2]; exact dget H hd), a, _, rfl, h1, rfl, _, _, rfl, _, _, rfl, _, _, rfl, _, _, rfl, rfl, ?_⟩
      -- old
      refine ⟨fun σ' H' => σ' = [some (.ref p), some (.int h), some (.int ss), some (.int c), some (.int m.s), some (.int m.c), some tv] ∧ H' = H ∧ ¬ (ss < m.s ∨ (ss = m.s ∧ c < m.c)), ?_, ?_⟩
      · refine ⟨_, rfl, _, rfl, _, _, rfl, rfl, _, rfl, ?_⟩
        by_cases c1 : ss < m.s
        · rw [decide_eq_true c1]
          rw [if_pos (.inl c1)] at q
          exact iteT (iteT q)
        rw [decide_eq_false c1]
        refine iteF ⟨_, rfl, _, rfl, rfl, _, rfl, ?_⟩
        by_cases c2 : ss = m.s
        · rw [decide_eq_true (show V.int ss = V.int m.s by rw [c2])]
          refine iteT ⟨_, rfl, _, rfl, _, _, rfl, rfl, _, rfl, ?_⟩
          by_cases c3 : c < m.c
          · rw [decide_eq_true c3]
            rw [if_pos (.inr ⟨c2, c3⟩)] at q
            exact iteT q
          · rw [decide_eq_false c3]
            exact iteF ⟨rfl, rfl, fun z => z.elim c1 fun z => c3 z.2⟩
        · rw [decide_eq_false (fun z => c2 (by injection z))]
          exact iteF (iteF ⟨rfl, rfl, fun z => z.elim c1 fun z => c2 z.1⟩)
      rintro σ' H' ⟨rfl, rfl, nc1⟩
      rw [if_neg nc1] at q
      -- early
      refine ⟨fun σ' H1 => σ' = [some (.ref p), some (.int h), some (.int ss), some (.int c), some (.int m.s), some (.int m.c), some tv] ∧ H1 = H' ∧ ¬ (m.s < ss ∨ m.c + 1 < c), ?_, ?_⟩
      · refine ⟨_, rfl, _, rfl, _, _, rfl, rfl, _, rfl, ?_⟩
        by_cases c1 : m.s < ss
        · rw [decide_eq_true c1]
          rw [if_pos (.inl c1)] at q
          exact iteT (iteT q)
        rw [decide_eq_false c1]
        refine iteF ⟨_, rfl, _, rfl, _, _, rfl, rfl, _, _, rfl, rfl, _, rfl, ?_⟩
        by_cases c2 : m.c + 1 < c
        · rw [decide_eq_true c2]
          rw [if_pos (.inr c2)] at q
          exact iteT q
        · rw [decide_eq_false c2]
          exact iteF ⟨rfl, rfl, fun z => z.elim c1 c2⟩
      rintro σ' H1 ⟨rfl, rfl, nc2⟩
      rw [if_neg nc2] at q
      refine ⟨_, rfl, _, rfl, rfl, _, rfl, ?_⟩
      by_cases c1 : c = m.c
      · rw [decide_eq_true (show V.int c = V.int m.c by rw [c1])]
        rw [if_pos c1] at q
        exact iteT q
      · rw [decide_eq_false (fun z => c1 (by injection z))]
        rw [if_neg c1] at q
        exact iteF q
theorem eqv_pair {a b c d : Int} : PyData.eqv (.tuple [.int a, .int b]) (.tuple [.int c, .int d]) = (decide (a = c) && decide (b = d)) := by
  simp only [PyData.eqv, PyData.eqvAll]
  by_cases h1 : a = c <;> by_cases h2 : b = d <;> simp [h1, h2]
theorem sh_pair {a b : Int} : SeqAt.shaped (.tuple [.int a, .int b]) = true := (gd_tup2 (n := 0) gd_int gd_int).sh (by decide)
theorem scKeptM : FnScope ["self", "host", "session", "counter", "present", "last", "answer", "_"] ["self", "host", "session", "counter"] (defScope (cS 7)) := ⟨rfl, rfl, rfl, by decide +kernel, rfl, by decide +kernel, by decide +kernel⟩
theorem ok_keptM (F : Fun K "kept_answer" "Sessions.kept_answer" (cS 7) f fd) (Tx : ST K mg C) (Go : Mth P wd K mg base CX0 C "is_open" 1 ["self", "host"] (spOpen K C) f1 fd1) : FnOk P wd K mg base CX0 2 f fd ["self", "host", "session", "counter"] (spKeptM K C) := by
  refine F.ok scKeptM (fun vs H Q E h => ?_) (fun cdv A outer s H vs Q E hr h => ?_)
  · obtain ⟨p, dm, db, ms, bs, h, s, c, rfl, _⟩ := h
    rfl
  · obtain ⟨p, dm, db, ms, bs, h, ss, c, rfl, S, q⟩ := h
    refine ⟨_, (pss_cons (ps_if (PW.pt (pw_or (pt_not (pt_val (pe_meth (pv 0) Tx.cl Go.me Go.ok hr Go.bd .nil pass0 (pa_cons (pv 1) pa_nil)))) (pw_or1 (pt_cmpR op_eq (pv 3) pe_int (nomark _)))))
      (pss_one (ps_ret pe_non)) pss_nil)
      (pss_cons (ps_asg (pe_dget (hu_of hr) (pe_fld (pv 0) rfl) (pv 1) (fun _ _ => rfl)) (pg_tup (by rfl) (pgs_cons (pg_name (i := 4) scKeptM.nd rfl (Or.inl rfl)) (pgs_cons (pg_name (i := 5) scKeptM.nd rfl (Or.inl rfl)) (pgs_cons (pg_name (i := 6) scKeptM.nd rfl (Or.inl rfl)) (pgs_cons (pg_name (i := 7) scKeptM.nd rfl (Or.inl rfl)) L2.pgs_nil))))))
      (pss_one (ps_ret (pe_ifExp (pt_cmpR (op_eqD hr.units) (pe_tup (pa_cons (pv 2) (pa_cons (pv 3) pa_nil))) (pe_tup (pa_cons (pv 4) (pa_cons (pv 5) pa_nil))) (nomark _)) (pv 6) pe_non))))), ?_⟩
    obtain ⟨dx, hp⟩ := S.ob
    obtain ⟨kvs, hd, pr⟩ := S.md
    unfold keptD at q
    refine ⟨_, rfl, p, dx, _, rfl, hp, sf_no (by decide +kernel), _, rfl, p, dm, db, ms, bs, h, rfl, S, _, rfl, ?_⟩
    cases ho : opn bs h with
    | false =>
      rw [if_pos (.inl ho)] at q
      exact iteT (iteT (q _ H (Same.refl H) .non))
    | true =>
      refine iteF ⟨_, rfl, rfl, _, rfl, ?_⟩
      by_cases c0 : c = 0
      · rw [decide_eq_true (show V.int c = V.int 0 by rw [c0])]
        rw [if_pos (.inr c0)] at q
        exact iteT (q _ H (Same.refl H) .non)
      rw [decide_eq_false (fun z => c0 (by injection z))]
      obtain ⟨m, hm⟩ := S.cv h ho
      rw [if_neg (by rw [ho]; intro z; rcases z with z | z; · cases z
                     · exact c0 z), hm] at q
      have q' : ∀ v H', Same H H' → Dp K H' v (if ss = m.s ∧ c = m.c then m.a else .none) → Q v H' := q
      rcases pr_get pr h with ⟨z, _⟩ | ⟨m', v, z, e2, hv, g⟩
      · rw [z] at hm; cases hm
      rw [hm] at z; cases z
      obtain ⟨a, av, tv, rfl, h1, h2, h3⟩ := hv
      refine iteF ⟨_, rfl, p, C, dx, _, _, rfl, hp, Tx.cl, Tx.n1, sf_m, _, rfl, dm, _, rfl, (by rw [← e2]; exact dget H hd), a, _, rfl, h1, rfl, _, _, rfl, _, _, rfl, _, _, rfl, _, _, rfl, rfl, ?_⟩
      refine ⟨_, rfl, _, rfl, by show 2 ≤ sizeLine; decide, fun t1 ht1 => ⟨_, rfl, _, rfl, by show 2 ≤ sizeLine; decide, fun t2 ht2 => ?_⟩⟩
      have s1 := same_new (o := .tup [.int ss, .int c]) ht1
      have s2 := same_new (o := .tup [.int m.s, .int m.c]) ht2
      refine ⟨.tuple [.int ss, .int c], .tuple [.int m.s, .int m.c], .tup (SqT.of (s2 _ _ upd_same)) (.cons (.int _) (.cons (.int _) .nil)), .tup (SqT.of upd_same) (.cons (.int _) (.cons (.int _) .nil)), sh_pair, sh_pair, _, rfl, ?_⟩
      rw [eqv_pair]
      by_cases c1 : ss = m.s ∧ c = m.c
      · rw [decide_eq_true c1.1, decide_eq_true c1.2]
        rw [if_pos c1] at q'
        exact iteT ⟨_, rfl, q' _ _ (s1.trans s2) (dp_same (s1.trans s2) _ _ h2)⟩
      · have e : (decide (ss = m.s) && decide (c = m.c)) = false := by
          rw [Bool.and_eq_false_iff, decide_eq_false_iff_not, decide_eq_false_iff_not]
          by_cases z : ss = m.s
          · exact .inr fun w => c1 ⟨z, w⟩
          · exact .inl z
        rw [e]
        rw [if_neg c1] at q'
        exact iteF (q' _ _ (s1.trans s2) .non)
theorem scBeginM : FnScope ["self", "host", "number", "told"] ["self", "host", "number"] (defScope (cS 5)) := ⟨rfl, rfl, rfl, by decide +kernel, rfl, by decide +kernel, by decide +kernel⟩
theorem ok_beginM (F : Fun K "begin" "Sessions.begin" (cS 5) f fd) (Tx : ST K mg C) (NVx : NV K mg CN CS) (Gc : Mth P wd K mg base CX0 C "connecting" 2 ["self", "host", "number"] (spConnM K C) f1 fd1) (Gn : Mth P wd K mg base CX0 C "next_told" 2 ["self", "host"] (spNextM K C) f2 fd2) :
    FnOk P wd K mg base (L2.CX P wd) 3 f fd ["self", "host", "number"] (spBeginM K C CN) := by
  refine F.okX scBeginM (fun vs H Q E h => ?_) (fun cdv A outer s H vs Q E hr h => ?_)
  · obtain ⟨p, dm, db, ms, bs, h, n, rfl, _⟩ := h
    rfl
  · obtain ⟨p, dm, db, ms, bs, h, n, rfl, S, n1, n2, k1, k2⟩ := h
    refine ⟨_, (pss_cons (ps_if (pt_cmpR op_ne (pe_meth (pv 0) Tx.cl Gc.me Gc.ok hr Gc.bd .nil pass0 (pa_cons (pv 1) (pa_cons (pv 2) pa_nil))) pe_str (nomark _))
      (pss_one (ps_notValid NVx rfl (takes_of rfl rfl rfl rfl) (by rfl))) pss_nil)
      (pss_cons (ps_set (i := 3) scBeginM.nd rfl (Or.inl rfl) (pe_meth (pv 0) Tx.cl Gn.me Gn.ok hr Gn.bd .nil pass0 (pa_cons (pv 1) pa_nil)))
      (pss_cons (ps_dput (hu_of hr) (pe_fld (pv 0) rfl) (pv 1) (pe_tup (pa_cons (pv 2) (pa_cons pe_int (pa_cons pe_non (pa_cons (pv 3) pa_nil))))) rfl)
      (pss_cons (ps_dput (hu_of hr) (pe_fld (pv 0) rfl) (pv 1) pe_bl rfl)
      (pss_one (ps_ret (pv 3))))))), ?_⟩
    obtain ⟨dx, hp⟩ := S.ob
    refine ⟨_, rfl, p, dx, _, rfl, hp, sf_no (by decide +kernel), _, rfl, _, rfl, p, dm, db, ms, bs, h, n, rfl, S, rfl, _, rfl, ?_⟩
    by_cases c : connS ms h n = "new"
    · rw [c, str_eqT]
      refine iteF ⟨_, rfl, p, dx, _, rfl, hp, sf_no (by decide +kernel), _, rfl, p, dm, db, ms, bs, h, rfl, S, fun v H1 s1 hv => ?_⟩
      have S1 := S.same s1
      obtain ⟨dx1, hp1⟩ := S1.ob
      obtain ⟨kvs, hd, pr⟩ := S1.md
      -- self._marks[host] = (number, 0, None, told)
      refine ⟨_, rfl, _, rfl, by show 4 ≤ sizeLine; decide, fun t ht => ?_⟩
      have s2 := same_new (o := .tup [.int n, .int 0, .non, v]) ht
      have ht2 : (upd H1 t (.tup [.int n, .int 0, .non, v])) t = some (.tup [.int n, .int 0, .non, v]) := upd_same
      generalize upd H1 t (.tup [.int n, .int 0, .non, v]) = H2 at s2 ht2
      have gm : GM ⟨n, 0, .none, ntD ms h⟩ := ⟨gd_none, nt_gd fun m e => S.md.gm e⟩
      have mv : MkV K H2 (.ref t) ⟨n, 0, .none, ntD ms h⟩ := ⟨t, .non, v, rfl, SqT.of ht2, .non, dp_same s2 _ _ hv⟩
      have hd2 := s2 _ _ hd
      obtain ⟨M3, tk3⟩ := MD.put (i := h) hd2 (pr_tk pr (TK.of s2)) mv gm
      have hlen : kvs.length < sizeLine := small1000 (by have := pr_len pr; omega)
      refine ⟨_, rfl, p, C, dx1, _, _, rfl, s2 _ _ hp1, Tx.cl, Tx.n1, sf_m, _, rfl, dm, _, rfl, DPut.k (k := Sum.inl h) hd2 hlen, ?_⟩
      have npd : p ≠ dm := ne_of hp1 hd (by intro z; cases z)
      have nbd : db ≠ dm := fun e => S.ne e.symm
      have o3 : Off [dm, db] H2 (upd H2 dm (.dK (putK kvs (Sum.inl h) (.ref t)))) := Off.upd (by simp)
      have hp3 : (upd H2 dm (.dK (putK kvs (Sum.inl h) (.ref t)))) p = some (.ins C dx1 (sf dm db)) := by rw [upd_ne npd]; exact s2 _ _ hp1
      have hb3 : (upd H2 dm (.dK (putK kvs (Sum.inl h) (.ref t)))) db = some (.dK bs) := by rw [upd_ne nbd]; exact s2 _ _ S1.bd
      generalize upd H2 dm (.dK (putK kvs (Sum.inl h) (.ref t))) = H3 at M3 tk3 o3 hp3 hb3
      -- self._begun[host] = True
      refine ⟨_, rfl, p, C, dx1, _, _, rfl, hp3, Tx.cl, Tx.n2, sf_b, _, rfl, db, _, rfl, DPut.k (k := Sum.inl h) hb3 (small1000 (by omega)), ?_⟩
      have o4 : Off [dm, db] H3 (upd H3 db (.dK (putK bs (Sum.inl h) (.bl true)))) := Off.upd (by simp)
      have tk4 : TK H3 (upd H3 db (.dK (putK bs (Sum.inl h) (.bl true)))) := TK.off (xs := [db]) (Off.upd (List.mem_singleton.mpr rfl)) fun x hx => by
        rw [List.mem_singleton.mp hx]; exact .inr ⟨_, hb3⟩
      have npb : p ≠ db := ne_of hp3 hb3 (by intro z; cases z)
      have oo : Off [dm, db] H (upd H3 db (.dK (putK bs (Sum.inl h) (.bl true)))) := ((Off.of (s1.trans s2)).trans o3).trans o4
      have tk : TK H (upd H3 db (.dK (putK bs (Sum.inl h) (.bl true)))) := ((TK.of (s1.trans s2)).trans tk3).trans tk4
      refine ⟨_, rfl, k2 c v _ oo tk ⟨⟨dx1, by rw [upd_ne npb]; exact hp3⟩, M3.tk (xs := [db]) (Off.upd (List.mem_singleton.mpr rfl)) tk4 (by simpa using S.ne), upd_same, S.ne, ?_, ?_, ?_⟩ (dp_tk ((TK.of s2).trans (tk3.trans tk4)) _ _ gm.t.t hv)⟩
      · intro j hj
        rw [opn_put] at hj
        by_cases e : j = h
        · subst e; exact ⟨_, lk_pt ms j _⟩
        · rw [lk_pt_ne ms _ (fun z => e z.symm)]
          exact S.cv j (by simpa [e] using hj)
      · have := pt_len ms h ⟨n, 0, .none, ntD ms h⟩; omega
      · have := putK_len bs (Sum.inl h) (.bl true); omega
    · rw [str_eqF c]
      exact iteT (k1 c)
theorem scKeepM : FnScope ["self", "host", "answer", "session", "counter", "_", "told"] ["self", "host", "answer"] (defScope (cS 8)) := ⟨rfl, rfl, rfl, by decide +kernel, rfl, by decide +kernel, by decide +kernel⟩
theorem ok_keepM (F : Fun K "keep" "Sessions.keep" (cS 8) f fd) (Tx : ST K mg C) (NVx : NV K mg CN CS) (Go : Mth P wd K mg base CX0 C "is_open" 1 ["self", "host"] (spOpen K C) f1 fd1) :
    FnOk P wd K mg base (L2.CX P wd) 2 f fd ["self", "host", "answer"] (spKeepM K C CN) := by
  refine F.okX scKeepM (fun vs H Q E h => ?_) (fun cdv A outer s H vs Q E hr h => ?_)
  · obtain ⟨p, dm, db, ms, bs, h, av, ad, rfl, _⟩ := h
    rfl
  · obtain ⟨p, dm, db, ms, bs, h, av, ad, rfl, S, n1, hav, gad, k1, k2⟩ := h
    refine ⟨_, (pss_cons (ps_if (pt_not (pt_val (pe_meth (pv 0) Tx.cl Go.me Go.ok hr Go.bd .nil pass0 (pa_cons (pv 1) pa_nil))))
      (pss_one (ps_notValid NVx rfl (takes_of rfl rfl rfl rfl) (by rfl))) pss_nil)
      (pss_cons (ps_asg (pe_dget (hu_of hr) (pe_fld (pv 0) rfl) (pv 1) (fun _ _ => rfl)) (pg_tup (by rfl) (pgs_cons (pg_name (i := 3) scKeepM.nd rfl (Or.inl rfl)) (pgs_cons (pg_name (i := 4) scKeepM.nd rfl (Or.inl rfl)) (pgs_cons (pg_name (i := 5) scKeepM.nd rfl (Or.inl rfl)) (pgs_cons (pg_name (i := 6) scKeepM.nd rfl (Or.inl rfl)) L2.pgs_nil))))))
      (pss_one (ps_dput (hu_of hr) (pe_fld (pv 0) rfl) (pv 1) (pe_tup (pa_cons (pv 3) (pa_cons (pe_op op_add (pv 4) pe_int) (pa_cons (pv 2) (pa_cons (pv 6) pa_nil))))) rfl)))), ?_⟩
    obtain ⟨dx, hp⟩ := S.ob
    obtain ⟨kvs, hd, pr⟩ := S.md
    refine ⟨_, rfl, p, dx, _, rfl, hp, sf_no (by decide +kernel), _, rfl, p, dm, db, ms, bs, h, rfl, S, _, rfl, ?_⟩
    cases ho : opn bs h with
    | false => exact iteT (k1 ho)
    | true =>
      obtain ⟨m, hm⟩ := S.cv h ho
      rcases pr_get pr h with ⟨z, _⟩ | ⟨m', v, z, e2, hv, g⟩
      · rw [z] at hm; cases hm
      rw [hm] at z; cases z
      obtain ⟨a, av', tv, rfl, h1, h2, h3⟩ := hv
      refine iteF ⟨_, rfl, p, C, dx, _, _, rfl, hp, Tx.cl, Tx.n1, sf_m, _, rfl, dm, _, rfl, (by rw [← e2]; exact dget H hd), a, _, rfl, h1, rfl, _, _, rfl, _, _, rfl, _, _, rfl, _, _, rfl, rfl, ?_⟩
      refine ⟨_, rfl, _, rfl, _, _, rfl, rfl, _, rfl, _, rfl, by show 4 ≤ sizeLine; decide, fun t ht => ?_⟩
      have s2 := same_new (o := .tup [.int m.s, .int (m.c + 1), av, tv]) ht
      have ht2 : (upd H t (.tup [.int m.s, .int (m.c + 1), av, tv])) t = some (.tup [.int m.s, .int (m.c + 1), av, tv]) := upd_same
      generalize upd H t (.tup [.int m.s, .int (m.c + 1), av, tv]) = H2 at s2 ht2
      have gm : GM ⟨m.s, m.c + 1, ad, m.t⟩ := ⟨gad, g.t⟩
      have mv : MkV K H2 (.ref t) ⟨m.s, m.c + 1, ad, m.t⟩ := ⟨t, av, tv, rfl, SqT.of ht2, dp_same s2 _ _ hav, dp_same s2 _ _ h3⟩
      have hd2 := s2 _ _ hd
      obtain ⟨M3, tk3⟩ := MD.put (i := h) hd2 (pr_tk pr (TK.of s2)) mv gm
      have hlen : kvs.length < sizeLine := small1000 (by have := pr_len pr; omega)
      refine ⟨_, rfl, p, C, dx, _, _, rfl, s2 _ _ hp, Tx.cl, Tx.n1, sf_m, _, rfl, dm, _, rfl, DPut.k (k := Sum.inl h) hd2 hlen, ?_⟩
      have npd : p ≠ dm := ne_of hp hd (by intro z; cases z)
      have nbd : db ≠ dm := fun e => S.ne e.symm
      have o3 : Off [dm] H2 (upd H2 dm (.dK (putK kvs (Sum.inl h) (.ref t)))) := Off.upd (by simp)
      refine k2 ho m _ hm ((Off.of s2).trans o3) ((TK.of s2).trans tk3) ⟨⟨dx, by rw [upd_ne npd]; exact s2 _ _ hp⟩, M3, by rw [upd_ne nbd]; exact s2 _ _ S.bd, S.ne, ?_, ?_, S.n2⟩
      · intro j hj
        by_cases e : j = h
        · subst e; exact ⟨_, lk_pt ms j _⟩
        · rw [lk_pt_ne ms _ (fun z => e z.symm)]
          exact S.cv j hj
      · have := pt_len ms h ⟨m.s, m.c + 1, ad, m.t⟩; omega
end
end Sg

set_option Elab.async false
set_option linter.all false
set_option maxRecDepth 100000
set_option maxHeartbeats 4000000
namespace Sg
open PySem PySem.Spec PyProof.Rows L2
def OptMk (K : PySem.W.Frag) (H : Hp) (v : V) (x : Option Mk4) : Prop := (x = none ∧ v = .non) ∨ ∃ m, x = some m ∧ MkV K H v m ∧ GM m
theorem opt_dp {K : PySem.W.Frag} {H : Hp} {v w : V} {x : Option Mk4} (h : OptMk K H v x) (h2 : OptMk K H w x) : ∃ d, Dp K H v d ∧ Dp K H w d ∧ SeqAt.shaped d = true := by
  rcases h with ⟨rfl, rfl⟩ | ⟨m, rfl, hv, g⟩
  · rcases h2 with ⟨_, rfl⟩ | ⟨m, z, _⟩
    · exact ⟨.none, .non, .non, gd_none (n := 0) |>.sh (by decide)⟩
    · cases z
  · rcases h2 with ⟨z, _⟩ | ⟨m', z, hw, _⟩
    · cases z
    · cases z; exact ⟨mkD m, hv.dp, hw.dp, g.d.sh (by decide)⟩
theorem opt_get {K : PySem.W.Frag} {H : Hp} {kvs : List (Key × V)} {ms : MS} (h : Paired (MR1 K H) kvs ms) (i : Int) : OptMk K H ((valV kvs (Sum.inl i)).getD .non) (lk ms i) := by
  rcases pr_get h i with ⟨e1, e2⟩ | ⟨m, v, e1, e2, hv, g⟩
  · rw [e2]; exact .inl ⟨e1, rfl⟩
  · rw [e2]; exact .inr ⟨m, e1, hv, g⟩
theorem mark_of' {K : PySem.W.Frag} {C : Addr} {H : Hp} {p dm db : Addr} {ms : MS} {bs : BS} {h : Int} {Q : VK} {E : XK} (S : SA K C H p dm db ms bs) (q : ∀ v, OptMk K H v (lk ms h) → Q v H) : spMark K C [.ref p, .int h] H Q E :=
  ⟨p, dm, db, ms, bs, h, rfl, S, fun e => q _ (.inl ⟨e, rfl⟩), fun m v e hv g => q _ (.inr ⟨m, e, hv, g⟩)⟩
def spTold (K : PySem.W.Frag) : Sp := fun vs H Q _ => ∃ d ms h, vs = [.ref d, .int h] ∧ MD K H d ms ∧ ∀ v H', Same H H' → Dp K H' v (ntD ms h) → Q v H'
def spConn (K : PySem.W.Frag) : Sp := fun vs H Q _ => ∃ d ms h n, vs = [.ref d, .int h, .int n] ∧ MD K H d ms ∧ Q (.str (connS ms h n)) H
def spKind (K : PySem.W.Frag) : Sp := fun vs H Q _ => ∃ d o ms bs h s c, vs = [.ref d, .ref o, .int h, .int s, .int c] ∧ MD K H d ms ∧ H o = some (.dK bs) ∧ Cov ms bs ∧ Q (.str (kindS ms bs h s c)) H
def spKept (K : PySem.W.Frag) : Sp := fun vs H Q _ => ∃ d o ms bs h s c, vs = [.ref d, .ref o, .int h, .int s, .int c] ∧ MD K H d ms ∧ H o = some (.dK bs) ∧ Cov ms bs ∧ ∀ v H', Same H H' → Dp K H' v (keptD ms bs h s c) → Q v H'
def spBegin (K : PySem.W.Frag) (C : Addr) : Sp := fun vs H Q _ => ∃ p dm db ms bs h n, vs = [.ref p, .int h, .int n] ∧ SA K C H p dm db ms bs ∧ ms.length < 900 ∧ bs.length < 900 ∧ (¬ connS ms h n = "new" → Q (.bl true) H) ∧
  (connS ms h n = "new" → ∀ l v H', Off [dm, db] H H' → TK H H' → SA K C H' p dm db (pt ms h ⟨n, 0, .none, ntD ms h⟩) (putK bs (Sum.inl h) (.bl true)) → H' l = some (.lst [v]) → Dp K H' v (ntD ms h) → Q (.ref l) H')
def spKeep (K : PySem.W.Frag) (C : Addr) : Sp := fun vs H Q _ => ∃ p dm db ms bs h av ad, vs = [.ref p, .int h, av] ∧ SA K C H p dm db ms bs ∧ ms.length < 900 ∧ Dp K H av ad ∧ GD 1 ad ∧ (opn bs h = false → Q (.bl true) H) ∧
  (opn bs h = true → ∀ m l H', lk ms h = some m → Off [dm] H H' → TK H H' → SA K C H' p dm db (pt ms h ⟨m.s, m.c + 1, ad, m.t⟩) bs → H' l = some (.lst [.non]) → Q (.ref l) H')
def spShows (K : PySem.W.Frag) (C : Addr) : Sp := fun vs H Q _ => ∃ p d o dm db ms bs, vs = [.ref p, .ref d, .ref o] ∧ SA K C H p dm db ms bs ∧ MD K H d ms ∧ H o = some (.dK bs) ∧ ∀ H', Same H H' → Q (.bl true) H'
section
variable {P : Program} {wd : World} {K : PySem.W.Frag} {mg : Str → Option Value} {base : Heap} {f f1 f2 f3 f4 C CN CS : Addr} {fd fd1 fd2 fd3 fd4 : FuncData}
theorem scTold : FnScope ["marks", "host", "mark"] ["marks", "host"] (defScope sTold) := ⟨rfl, rfl, rfl, by decide +kernel, rfl, by decide +kernel, by decide +kernel⟩
theorem ok_told (F : Fun K "_law_told" "_law_told" sTold f fd) : FnOk P wd K mg base CX0 1 f fd ["marks", "host"] (spTold K) := by
  refine F.ok scTold (fun vs H Q E h => ?_) (fun cdv A outer s H vs Q E hr h => ?_)
  · obtain ⟨d, ms, h, rfl, _⟩ := h
    rfl
  · obtain ⟨d, ms, h, rfl, M, q⟩ := h
    refine ⟨_, (pss_cons (ps_if (pt_cmp (pc_dnotin (hu_of hr) (pv 1) (pv 0)))
      (pss_one (ps_ret pe_non)) pss_nil)
      (pss_cons (ps_set (i := 2) scTold.nd rfl (Or.inl rfl) (pe_dget (hu_of hr) (pv 0) (pv 1) (fun _ _ => rfl)))
      (pss_cons (ps_if (pt_cmpR op_eq (pe_ix ix_tup (pv 2) pe_int (fun _ _ => rfl)) pe_int (nomark _))
      (pss_one (ps_ret (pe_ix ix_tup (pv 2) pe_int (fun _ _ => rfl)))) pss_nil)
      (pss_one (ps_ret (pe_tup (pa_cons (pe_ix ix_tup (pv 2) pe_int (fun _ _ => rfl)) (pa_cons (pe_ix ix_tup (pv 2) pe_int (fun _ _ => rfl)) (pa_cons (pe_ix ix_tup (pv 2) pe_int (fun _ _ => rfl)) pa_nil))))))))), ?_⟩
    obtain ⟨kvs, hd, pr⟩ := M
    unfold ntD at q
    refine ⟨_, rfl, _, rfl, d, _, rfl, dget H hd, _, rfl, ?_⟩
    rcases pr_get pr h with ⟨e1, e2⟩ | ⟨m, v, e1, e2, hv, g⟩
    · rw [e2]
      rw [e1] at q
      exact iteT (q _ H (Same.refl H) .non)
    · rw [e2]
      rw [e1] at q
      have q' : ∀ v H', Same H H' → Dp K H' v (if m.c = 0 then m.t else .tuple [.int m.s, .int m.c, m.a]) → Q v H' := q
      obtain ⟨a, av, tv, rfl, h1, h2, h3⟩ := hv
      refine iteF ⟨_, rfl, _, rfl, d, _, rfl, (by rw [← e2]; exact dget H hd), ?_⟩
      refine ⟨_, rfl, a, _, _, _, rfl, rfl, h1, atI_nat (j := 1) rfl, rfl, _, rfl, ?_⟩
      by_cases c : m.c = 0
      · rw [decide_eq_true (show V.int m.c = V.int 0 by rw [c])]
        rw [if_pos c] at q'
        exact iteT ⟨_, rfl, a, _, _, _, rfl, rfl, h1, atI_nat (j := 3) rfl, q' _ H (Same.refl H) h3⟩
      · rw [decide_eq_false (fun z => c (by injection z))]
        rw [if_neg c] at q'
        refine iteF ⟨_, rfl, a, _, _, _, rfl, rfl, h1, atI_nat (j := 0) rfl, _, rfl, a, _, _, _, rfl, rfl, h1, atI_nat (j := 1) rfl, _, rfl, a, _, _, _, rfl, rfl, h1, atI_nat (j := 2) rfl, by show 3 ≤ sizeLine; decide, fun t ht => ?_⟩
        exact q' _ _ (same_new ht) (.tup (SqT.of upd_same) (.cons (.int _) (.cons (.int _) (.cons (dp_same (same_new ht) _ _ h2) .nil))))
theorem scConn : FnScope ["marks", "host", "number"] ["marks", "host", "number"] (defScope sConn) := ⟨rfl, rfl, rfl, by decide +kernel, rfl, by decide +kernel, by decide +kernel⟩
theorem ok_conn (F : Fun K "_law_connecting" "_law_connecting" sConn f fd) : FnOk P wd K mg base CX0 1 f fd ["marks", "host", "number"] (spConn K) := by
  refine F.ok scConn (fun vs H Q E h => ?_) (fun cdv A outer s H vs Q E hr h => ?_)
  · obtain ⟨d, ms, h, n, rfl, _⟩ := h
    rfl
  · obtain ⟨d, ms, h, n, rfl, M, q⟩ := h
    refine ⟨_, (pss_cons (ps_if (PW.pt (pw_or (pt_cmp (pc_dnotin (hu_of hr) (pv 1) (pv 0))) (pw_or1 (pt_cmpR op_gt (pv 2) (pe_ix ix_tup (pe_dget (hu_of hr) (pv 0) (pv 1) (fun _ _ => rfl)) pe_int (fun _ _ => rfl)) (nomark _)))))
      (pss_one (ps_ret pe_str)) pss_nil)
      (pss_cons (ps_if (pt_cmpR op_eq (pv 2) (pe_ix ix_tup (pe_dget (hu_of hr) (pv 0) (pv 1) (fun _ _ => rfl)) pe_int (fun _ _ => rfl)) (nomark _))
      (pss_one (ps_ret pe_str)) pss_nil)
      (pss_one (ps_ret pe_str)))), ?_⟩
    obtain ⟨kvs, hd, pr⟩ := M
    unfold connS at q
    refine ⟨_, rfl, _, rfl, d, _, rfl, dget H hd, _, rfl, ?_⟩
    rcases pr_get pr h with ⟨e1, e2⟩ | ⟨m, v, e1, e2, hv, g⟩
    · rw [e2]
      rw [e1] at q
      exact iteT (iteT q)
    · rw [e2]
      rw [e1] at q
      obtain ⟨a, av, tv, rfl, h1, h2, h3⟩ := hv
      have hg : DGet H d (.int h) (some (.ref a)) := by rw [← e2]; exact dget H hd
      refine iteF ⟨_, rfl, _, rfl, _, rfl, d, _, rfl, hg, a, _, _, _, rfl, rfl, h1, atI_nat (j := 0) rfl, _, _, rfl, rfl, _, rfl, ?_⟩
      by_cases c : m.s < n
      · rw [decide_eq_true c]
        exact iteT (show Q (.str "new") H from by simpa [c] using q)
      · rw [decide_eq_false c]
        refine iteF ⟨_, rfl, _, rfl, _, rfl, d, _, rfl, hg, a, _, _, _, rfl, rfl, h1, atI_nat (j := 0) rfl, rfl, _, rfl, ?_⟩
        by_cases c2 : n = m.s
        · subst c2
          rw [decide_eq_true (show V.int m.s = V.int m.s from rfl)]
          exact iteT (show Q (.str "again") H from by simpa using q)
        · rw [decide_eq_false (fun z => c2 (by injection z))]
          exact iteF (show Q (.str "old") H from by simpa [c, c2] using q)
theorem scKind : FnScope ["marks", "opened", "host", "session", "counter", "mark"] ["marks", "opened", "host", "session", "counter"] (defScope sKind) := ⟨rfl, rfl, rfl, by decide +kernel, rfl, by decide +kernel, by decide +kernel⟩
theorem ok_kind (F : Fun K "_law_kind" "_law_kind" sKind f fd) : FnOk P wd K mg base CX0 1 f fd ["marks", "opened", "host", "session", "counter"] (spKind K) := by
  refine F.ok scKind (fun vs H Q E h => ?_) (fun cdv A outer s H vs Q E hr h => ?_)
  · obtain ⟨d, o, ms, bs, h, s, c, rfl, _⟩ := h
    rfl
  · obtain ⟨d, o, ms, bs, h, ss, c, rfl, M, ho', cv, q⟩ := h
    refine ⟨_, (pss_cons (ps_if (pt_cmp (pc_dnotin (hu_of hr) (pv 2) (pv 1)))
      (pss_one (ps_ret pe_str)) pss_nil)
      (pss_cons (ps_set (i := 5) scKind.nd rfl (Or.inl rfl) (pe_dget (hu_of hr) (pv 0) (pv 2) (fun _ _ => rfl)))
      (Evl.pss_cut (ps_if (PW.pt (pw_or (pt_cmpR op_lt (pv 3) (pe_ix ix_tup (pv 5) pe_int (fun _ _ => rfl)) (nomark _)) (pw_or1 (PW.pt (pw_and (pt_cmpR op_eq (pv 3) (pe_ix ix_tup (pv 5) pe_int (fun _ _ => rfl)) (nomark _)) (pw_and1 (pt_cmpR op_lt (pv 4) (pe_ix ix_tup (pv 5) pe_int (fun _ _ => rfl)) (nomark _))))))))
      (pss_one (ps_ret pe_str)) pss_nil)
      (Evl.pss_cut (ps_if (PW.pt (pw_or (pt_cmpR op_gt (pv 3) (pe_ix ix_tup (pv 5) pe_int (fun _ _ => rfl)) (nomark _)) (pw_or1 (pt_cmpR op_gt (pv 4) (pe_op op_add (pe_ix ix_tup (pv 5) pe_int (fun _ _ => rfl)) pe_int) (nomark _)))))
      (pss_one (ps_ret pe_str)) pss_nil)
      (pss_cons (ps_if (pt_cmpR op_eq (pv 4) (pe_ix ix_tup (pv 5) pe_int (fun _ _ => rfl)) (nomark _))
      (pss_one (ps_ret pe_str)) pss_nil)
      (pss_one (ps_ret pe_str))))))), ?_⟩
    obtain ⟨kvs, hd, pr⟩ := M
    refine ⟨_, rfl, _, rfl, o, _, rfl, dget H ho', _, rfl, ?_⟩
    cases ho : opn bs h with
    | false =>
      rw [show (valV bs (Sum.inl h)).isSome = false from ho]
      rw [kind_lost ho] at q; exact iteT q
    | true =>
      rw [show (valV bs (Sum.inl h)).isSome = true from ho]
      obtain ⟨m, hm⟩ := cv h ho
      rw [kind_some ho hm] at q
      rcases pr_get pr h with ⟨z, _⟩ | ⟨m', v, z, e2, hv, g⟩
      · rw [z] at hm; cases hm
      rw [hm] at z; cases z
      obtain ⟨a, av, tv, rfl, h1, h2, h3⟩ := hv
      refine iteF ⟨_, rfl, _, rfl, d, _, rfl, (by rw [← e2]; exact dget H hd), ?_⟩
      -- old
      refine ⟨fun σ' H' => σ' = [some (.ref d), some (.ref o), some (.int h), some (.int ss), some (.int c), some (.ref a)] ∧ H' = H ∧ ¬ (ss < m.s ∨ (ss = m.s ∧ c < m.c)), ?_, ?_⟩
      · refine ⟨_, rfl, _, rfl, a, _, _, _, rfl, rfl, h1, atI_nat (j := 0) rfl, _, _, rfl, rfl, _, rfl, ?_⟩
        by_cases c1 : ss < m.s
        · rw [decide_eq_true c1]
          rw [if_pos (.inl c1)] at q
          exact iteT (iteT q)
        rw [decide_eq_false c1]
        refine iteF ⟨_, rfl, _, rfl, a, _, _, _, rfl, rfl, h1, atI_nat (j := 0) rfl, rfl, _, rfl, ?_⟩
        by_cases c2 : ss = m.s
        · rw [decide_eq_true (show V.int ss = V.int m.s by rw [c2])]
          refine iteT ⟨_, rfl, _, rfl, a, _, _, _, rfl, rfl, h1, atI_nat (j := 1) rfl, _, _, rfl, rfl, _, rfl, ?_⟩
          by_cases c3 : c < m.c
          · rw [decide_eq_true c3]
            rw [if_pos (.inr ⟨c2, c3⟩)] at q
            exact iteT q
          · rw [decide_eq_false c3]
            exact iteF ⟨rfl, rfl, fun z => z.elim c1 fun z => c3 z.2⟩
        · rw [decide_eq_false (fun z => c2 (by injection z))]
          exact iteF (iteF ⟨rfl, rfl, fun z => z.elim c1 fun z => c2 z.1⟩)
      rintro σ' H' ⟨rfl, rfl, nc1⟩
      rw [if_neg nc1] at q
      -- early
      refine ⟨fun σ' H1 => σ' = [some (.ref d), some (.ref o), some (.int h), some (.int ss), some (.int c), some (.ref a)] ∧ H1 = H' ∧ ¬ (m.s < ss ∨ m.c + 1 < c), ?_, ?_⟩
      · refine ⟨_, rfl, _, rfl, a, _, _, _, rfl, rfl, h1, atI_nat (j := 0) rfl, _, _, rfl, rfl, _, rfl, ?_⟩
        by_cases c1 : m.s < ss
        · rw [decide_eq_true c1]
          rw [if_pos (.inl c1)] at q
          exact iteT (iteT q)
        rw [decide_eq_false c1]
        refine iteF ⟨_, rfl, _, rfl, a, _, _, _, rfl, rfl, h1, atI_nat (j := 1) rfl, _, _, rfl, rfl, _, _, rfl, rfl, _, rfl, ?_⟩
        by_cases c2 : m.c + 1 < c
        · rw [decide_eq_true c2]
          rw [if_pos (.inr c2)] at q
          exact iteT q
        · rw [decide_eq_false c2]
          exact iteF ⟨rfl, rfl, fun z => z.elim c1 c2⟩
      rintro σ' H1 ⟨rfl, rfl, nc2⟩
      rw [if_neg nc2] at q
      refine ⟨_, rfl, _, rfl, a, _, _, _, rfl, rfl, h1, atI_nat (j := 1) rfl, rfl, _, rfl, ?_⟩
      by_cases c1 : c = m.c
      · rw [decide_eq_true (show V.int c = V.int m.c by rw [c1])]
        rw [if_pos c1] at q
        exact iteT q
      · rw [decide_eq_false (fun z => c1 (by injection z))]
        rw [if_neg c1] at q
        exact iteF q
theorem scKept : FnScope ["marks", "opened", "host", "session", "counter"] ["marks", "opened", "host", "session", "counter"] (defScope sKept) := ⟨rfl, rfl, rfl, by decide +kernel, rfl, by decide +kernel, by decide +kernel⟩
theorem ok_kept (F : Fun K "_law_kept" "_law_kept" sKept f fd) : FnOk P wd K mg base CX0 1 f fd ["marks", "opened", "host", "session", "counter"] (spKept K) := by
  refine F.ok scKept (fun vs H Q E h => ?_) (fun cdv A outer s H vs Q E hr h => ?_)
  · obtain ⟨d, o, ms, bs, h, s, c, rfl, _⟩ := h
    rfl
  · obtain ⟨d, o, ms, bs, h, ss, c, rfl, M, ho', cv, q⟩ := h
    refine ⟨_, (pss_cons (ps_if (PW.pt (pw_or (pt_cmp (pc_dnotin (hu_of hr) (pv 2) (pv 1))) (pw_or (pt_cmpR op_eq (pv 4) pe_int (nomark _)) (pw_or1 (pt_cmpR (op_neD hr.units) (pe_slice sl_any (pe_dget (hu_of hr) (pv 0) (pv 2) (fun _ _ => rfl)) po_none (po_some pe_int)) (pe_tup (pa_cons (pv 3) (pa_cons (pv 4) pa_nil))) (nomark _))))))
      (pss_one (ps_ret pe_non)) pss_nil)
      (pss_one (ps_ret (pe_ix ix_tup (pe_dget (hu_of hr) (pv 0) (pv 2) (fun _ _ => rfl)) pe_int (fun _ _ => rfl))))), ?_⟩
    obtain ⟨kvs, hd, pr⟩ := M
    unfold keptD at q
    refine ⟨_, rfl, _, rfl, o, _, rfl, dget H ho', _, rfl, ?_⟩
    cases ho : opn bs h with
    | false =>
      rw [show (valV bs (Sum.inl h)).isSome = false from ho]
      rw [if_pos (.inl ho)] at q
      exact iteT (iteT (q _ H (Same.refl H) .non))
    | true =>
      rw [show (valV bs (Sum.inl h)).isSome = true from ho]
      refine iteF ⟨_, rfl, rfl, _, rfl, ?_⟩
      by_cases c0 : c = 0
      · rw [decide_eq_true (show V.int c = V.int 0 by rw [c0])]
        rw [if_pos (.inr c0)] at q
        exact iteT (iteT (q _ H (Same.refl H) .non))
      rw [decide_eq_false (fun z => c0 (by injection z))]
      obtain ⟨m, hm⟩ := cv h ho
      rw [if_neg (by rw [ho]; intro z; rcases z with z | z; · cases z
                     · exact c0 z), hm] at q
      have q' : ∀ v H', Same H H' → Dp K H' v (if ss = m.s ∧ c = m.c then m.a else .none) → Q v H' := q
      rcases pr_get pr h with ⟨z, _⟩ | ⟨m', v, z, e2, hv, g⟩
      · rw [z] at hm; cases hm
      rw [hm] at z; cases z
      obtain ⟨a, av, tv, rfl, h1, h2, h3⟩ := hv
      refine iteF ⟨_, rfl, _, rfl, d, _, rfl, (by rw [← e2]; exact dget H hd), 2, rfl, a, _, rfl, h1, fun t1 H1 s1 ht1 => ?_⟩
      have ec : cutV [V.int m.s, .int m.c, av, tv] none (some 2) = [.int m.s, .int m.c] := (cut_take (n := 2) (by simp)).trans rfl
      rw [ec] at ht1
      refine ⟨_, rfl, _, rfl, by show 2 ≤ sizeLine; decide, fun t2 ht2 => ?_⟩
      have s2 := same_new (o := .tup [.int ss, .int c]) ht2
      refine ⟨.tuple [.int m.s, .int m.c], .tuple [.int ss, .int c], .tup (SqT_same s2 ht1) (.cons (.int _) (.cons (.int _) .nil)), .tup (SqT.of upd_same) (.cons (.int _) (.cons (.int _) .nil)), sh_pair, sh_pair, _, rfl, ?_⟩
      rw [eqv_pair]
      have hd3 := s2 _ _ (s1 _ _ hd)
      by_cases c1 : ss = m.s ∧ c = m.c
      · rw [decide_eq_true c1.1.symm, decide_eq_true c1.2.symm]
        rw [if_pos c1] at q'
        exact iteF ⟨_, rfl, _, rfl, d, _, rfl, (by rw [← e2]; exact dget _ hd3), a, _, _, _, rfl, rfl, SqT_same (s1.trans s2) h1, atI_nat (j := 2) rfl, q' _ _ (s1.trans s2) (dp_same (s1.trans s2) _ _ h2)⟩
      · have e : (decide (m.s = ss) && decide (m.c = c)) = false := by
          rw [Bool.and_eq_false_iff, decide_eq_false_iff_not, decide_eq_false_iff_not]
          by_cases z : ss = m.s
          · exact .inr fun w => c1 ⟨z, w.symm⟩
          · exact .inl fun w => z w.symm
        rw [e]
        rw [if_neg c1] at q'
        exact iteT (q' _ _ (s1.trans s2) .non)
theorem scBegin : FnScope ["sessions", "host", "number", "error"] ["sessions", "host", "number"] (defScope sBegin) := ⟨rfl, rfl, rfl, by decide +kernel, rfl, by decide +kernel, by decide +kernel⟩
abbrev tSuite (K : PySem.W.Frag) (CN : Addr) (a : Addr) (cls : Value) (d : Option Addr) : TS := tRet (tCB (rIsX K a cls d) (tCons (tVar 3) (tCons (tC (.ref CN)) tNil)))
theorem kit_self {K : PySem.W.Frag} {C : Addr} : PySem.W.kitOne K (.ref C) (.ref C) = some true := by
  unfold PySem.W.kitOne
  rw [if_pos (by simp)]
theorem ok_begin (F : Fun K "_law_begin" "_law_begin" sBegin f fd) (Tx : ST K mg C) (NVx : NV K mg CN CS) (XC : ExcC K CN) (hisi : mg "isinstance" = none) (Mb : Mth P wd K mg base (L2.CX P wd) C "begin" 3 ["self", "host", "number"] (spBeginM K C CN) f1 fd1) :
    FnOk P wd K mg base CX0 4 f fd ["sessions", "host", "number"] (spBegin K C) := by
  refine F.ok scBegin (fun vs H Q E h => ?_) (fun cdv A outer s H vs Q E hr h => ?_)
  · obtain ⟨p, dm, db, ms, bs, h, n, rfl, _⟩ := h
    rfl
  · obtain ⟨p, dm, db, ms, bs, h, n, rfl, S, n1, n2, k1, k2⟩ := h
    refine ⟨_, pss_one (ps_try_as (i := 3) (Wout := fun _ _ _ _ => False)
      (tb := fun W => tRet (tLst (tCons (tMethT C "begin" (spBeginM K C CN) (WE W) (tVar 0) (tCons (tVar 1) (tCons (tVar 2) tNil))) tNil)))
      (ts := tSuite K CN) rfl rfl scBegin.nd rfl rfl ⟨rfl, by decide, Or.inl NVx.gS⟩ takes0
      (fun W pn xe tk _ => pss_one (ps_ret (pe_lst (pa_cons (by exact (pe_methT (pv 0) Tx.cl Mb.me Mb.ok hr Mb.bd (fun σ => passAt tk σ) (by exact (pa_cons (pv 1) (pa_cons (pv 2) pa_nil))))) pa_nil))))
      (fun a oe cls d pn hz hf => pss_one (ps_ret (pe_callB (call_isX hz hf) (by rfl) hisi boot_isi (pa_cons (pv 3) (pa_cons (pe_glob (v := .ref CN) (by rfl) NVx.gN rfl) pa_nil)))))), ?_⟩
    obtain ⟨dx, hp⟩ := S.ob
    refine ⟨_, rfl, p, dx, _, rfl, hp, sf_no (by decide +kernel), _, rfl, _, rfl, p, dm, db, ms, bs, h, n, rfl, S, n1, n2, fun nc => ?_, fun c v H' o tk S' hv => ?_⟩
    · exact ⟨true, NVx.eN, fun _ a ha => ⟨_, rfl, CN, _, .ref CN, true, rfl, rfl, XC, rfl, fun u hu => hu, kit_self, k1 nc⟩, fun z => Bool.noConfusion z⟩
    · refine ⟨by show 1 ≤ sizeLine; decide, fun l hl => ?_⟩
      have s1 := same_new (o := .lst [v]) hl
      exact k2 c l v _ (o.trans (Off.of s1)) (tk.trans (TK.of s1)) (S'.same s1) upd_same (dp_same s1 _ _ hv)
theorem scKeep : FnScope ["sessions", "host", "answer", "error"] ["sessions", "host", "answer"] (defScope sKeep) := ⟨rfl, rfl, rfl, by decide +kernel, rfl, by decide +kernel, by decide +kernel⟩
theorem ok_keep (F : Fun K "_law_keep" "_law_keep" sKeep f fd) (Tx : ST K mg C) (NVx : NV K mg CN CS) (XC : ExcC K CN) (hisi : mg "isinstance" = none) (Mp : Mth P wd K mg base (L2.CX P wd) C "keep" 2 ["self", "host", "answer"] (spKeepM K C CN) f1 fd1) :
    FnOk P wd K mg base CX0 3 f fd ["sessions", "host", "answer"] (spKeep K C) := by
  refine F.ok scKeep (fun vs H Q E h => ?_) (fun cdv A outer s H vs Q E hr h => ?_)
  · obtain ⟨p, dm, db, ms, bs, h, av, ad, rfl, _⟩ := h
    rfl
  · obtain ⟨p, dm, db, ms, bs, h, av, ad, rfl, S, n1, hav, gad, k1, k2⟩ := h
    refine ⟨_, pss_one (ps_try_as (i := 3) (Wout := fun _ _ _ _ => False)
      (tb := fun W => tRet (tLst (tCons (tMethT C "keep" (spKeepM K C CN) (WE W) (tVar 0) (tCons (tVar 1) (tCons (tVar 2) tNil))) tNil)))
      (ts := tSuite K CN) rfl rfl scKeep.nd rfl rfl ⟨rfl, by decide, Or.inl NVx.gS⟩ takes0
      (fun W pn xe tk _ => pss_one (ps_ret (pe_lst (pa_cons (by exact (pe_methT (pv 0) Tx.cl Mp.me Mp.ok hr Mp.bd (fun σ => passAt tk σ) (by exact (pa_cons (pv 1) (pa_cons (pv 2) pa_nil))))) pa_nil))))
      (fun a oe cls d pn hz hf => pss_one (ps_ret (pe_callB (call_isX hz hf) (by rfl) hisi boot_isi (pa_cons (pv 3) (pa_cons (pe_glob (v := .ref CN) (by rfl) NVx.gN rfl) pa_nil)))))), ?_⟩
    obtain ⟨dx, hp⟩ := S.ob
    refine ⟨_, rfl, p, dx, _, rfl, hp, sf_no (by decide +kernel), _, rfl, _, rfl, p, dm, db, ms, bs, h, av, ad, rfl, S, n1, hav, gad, fun nc => ?_, fun c m H' hm o tk S' => ?_⟩
    · exact ⟨true, NVx.eN, fun _ a ha => ⟨_, rfl, CN, _, .ref CN, true, rfl, rfl, XC, rfl, fun u hu => hu, kit_self, k1 nc⟩, fun z => Bool.noConfusion z⟩
    · refine ⟨by show 1 ≤ sizeLine; decide, fun l hl => ?_⟩
      have s1 := same_new (o := .lst [.non]) hl
      exact k2 c m l _ hm (o.trans (Off.of s1)) (tk.trans (TK.of s1)) (S'.same s1) upd_same
theorem scShows : FnScope ["sessions", "marks", "opened", "host", "opening"] ["sessions", "marks", "opened"] (defScope sShows) := ⟨rfl, rfl, rfl, by decide +kernel, rfl, by decide +kernel, by decide +kernel⟩
theorem ok_shows (F : Fun K "_law_shows" "_law_shows" sShows f fd) (Tx : ST K mg C) (B : LB mg) (hisi : mg "isinstance" = none) (hbool : mg "bool" = none)
    (Mo : Mth P wd K mg base CX0 C "is_open" 1 ["self", "host"] (spOpen K C) f1 fd1) (Mm : Mth P wd K mg base CX0 C "mark_of" 1 ["self", "host"] (spMark K C) f2 fd2) (Mn : Mth P wd K mg base CX0 C "next_told" 2 ["self", "host"] (spNextM K C) f3 fd3)
    (GT : Def P wd K mg base CX0 "_law_told" 1 ["marks", "host"] (spTold K) f4 fd4) : FnOk P wd K mg base CX0 3 f fd ["sessions", "marks", "opened"] (spShows K C) := by
  refine F.ok scShows (fun vs H Q E h => ?_) (fun cdv A outer s H vs Q E hr h => ?_)
  · obtain ⟨p, d, o, dm, db, ms, bs, rfl, _⟩ := h
    rfl
  · obtain ⟨p, d, o, dm, db, ms, bs, rfl, S, M, ho, q⟩ := h
    have hr1 : Room 1 _ := hr.mono (by decide)
    have hr2 : Room 2 _ := hr
    refine ⟨_, (pss_cons (ps_for PassesOwn.never rfl (pi_range1 (by rfl) B.range (pa_cons pe_int pa_nil)) (pg_name (i := 3) scShows.nd rfl (Or.inl rfl))
      (pss_cons (ps_set (i := 4) scShows.nd rfl (Or.inl rfl) (pe_meth (pv 0) Tx.cl Mo.me Mo.ok hr1 Mo.bd .nil pass0 (pa_cons (pv 3) pa_nil)))
      (pss_cons (ps_if (PW.pt (pw_or (pt_cmpR (op_neD hr.units) (pe_meth (pv 0) Tx.cl Mm.me Mm.ok hr1 Mm.bd .nil pass0 (pa_cons (pv 3) pa_nil)) (pe_dget1 (hu_of hr) (pv 1) (pv 3) ⟨rfl, rfl, rfl, rfl⟩) (nomark _)) (pw_or (pt_not (pt_val (pe_callB call_isi (by rfl) hisi boot_isi (pa_cons (pv 4) (pa_cons (pe_bltn (v := .ty "bool") (by rfl) hbool boot_bool rfl) pa_nil))))) (pw_or1 (pt_cmpR op_ne (pv 4) (pe_cmp (pc_din (hu_of hr) (pv 3) (pv 2)) rfl) (nomark _))))))
      (pss_one (ps_ret pe_bl)) pss_nil)
      (pss_one (ps_if (pt_cmpR (op_neD hr.units) (pe_meth (pv 0) Tx.cl Mn.me Mn.ok hr2 Mn.bd .nil pass0 (pa_cons (pv 3) pa_nil)) (pe_call GT.ok hr1 (by rfl) GT.mg GT.kp GT.bd .nil pass0 (pa_cons (pv 1) (pa_cons (pv 3) pa_nil))) (nomark _))
      (pss_one (ps_ret pe_bl)) pss_nil)))))
      (pss_one (ps_ret pe_bl))), ?_⟩
    refine ⟨4, rfl, by decide, by decide, ?_⟩
    refine for_range (lo := 0) (n := 4) (fun i σ H' => ∃ (x3 x4 : Option V), σ = [some (.ref p), some (.ref d), some (.ref o), x3, x4] ∧ Same H H') ?_ ?_ ?_
    · exact ⟨_, _, rfl, Same.refl H⟩
    · rintro i σ H1 hi ⟨x3, x4, rfl, s1⟩
      have S1 := S.same s1
      have M1 := M.same s1
      have ho1 := s1 _ _ ho
      obtain ⟨dx, hp⟩ := S1.ob
      obtain ⟨kvs, hd, pr⟩ := id M1
      refine ⟨_, rfl, p, dx, _, rfl, hp, sf_no (by decide +kernel), _, rfl, p, dm, db, ms, bs, _, rfl, S1, ?_⟩
      refine ⟨_, rfl, p, dx, _, rfl, hp, sf_no (by decide +kernel), _, rfl, nil_ (mark_of' S1 fun v hv => ?_)⟩
      refine ⟨_, rfl, d, rfl, .inl ⟨kvs, .inl hd⟩, _, rfl, _, dget H1 hd, ?_⟩
      obtain ⟨e, d1, d2, sh⟩ := opt_dp hv (opt_get pr (0 + (i : Int)))
      refine ⟨e, e, d1, d2, sh, sh, _, rfl, ?_⟩
      rw [SeqAt.eqv_refl _ (SeqAt.canLay_of_shaped sh)]
      refine iteF ⟨_, rfl, _, _, _, _, true, rfl, .ty "bool", .base (.bl _), kit_ty (by decide +kernel), _, rfl, iteF ⟨_, rfl, _, rfl, _, rfl, o, _, rfl, dget H1 ho1, rfl, _, rfl, ?_⟩⟩
      rw [decide_eq_true (show V.bl (opn bs (0 + (i : Int))) = V.bl (valV bs (Sum.inl (0 + (i : Int)))).isSome from rfl)]
      refine iteF ⟨_, rfl, p, dx, _, rfl, hp, sf_no (by decide +kernel), _, rfl, p, dm, db, ms, bs, _, rfl, S1, fun v1 H2 s2 hv1 => ?_⟩
      refine ⟨_, rfl, _, rfl, d, ms, _, rfl, M1.same s2, fun v2 H3 s3 hv2 => ?_⟩
      have sh2 : SeqAt.shaped (ntD ms (0 + (i : Int))) = true := (nt_gd fun m e => M.gm e).sh (by decide)
      refine ⟨_, _, dp_same s3 _ _ hv1, hv2, sh2, sh2, _, rfl, ?_⟩
      rw [SeqAt.eqv_refl _ (SeqAt.canLay_of_shaped sh2)]
      exact iteF ⟨_, _, rfl, (s1.trans s2).trans s3⟩
    · rintro σ H1 ⟨x3, x4, rfl, s1⟩
      exact q H1 s1
end
end Sg

set_option Elab.async false
set_option linter.all false
set_option maxRecDepth 100000
set_option maxHeartbeats 4000000
namespace Sg
open PySem PySem.Spec PyProof.Rows L2
/-- what stands while the law runs -/
structure JD (K : PySem.W.Frag) (C : Addr) (H : Hp) (p dm db d o tp : Addr) (ms : MS) (bs : BS) : Prop where
  sa : SA K C H p dm db ms bs
  md : MD K H d ms
  ho : H o = some (.dK bs)
  ta : TapeAt K H tp
  e1 : d ≠ dm
  e2 : d ≠ db
  e3 : o ≠ dm
  e4 : o ≠ db
  e5 : d ≠ o
section
variable {K : PySem.W.Frag} {C : Addr} {H H' : Hp} {p dm db d o tp : Addr} {ms : MS} {bs : BS}
theorem JD.same (h : JD K C H p dm db d o tp ms bs) (s : Same H H') : JD K C H' p dm db d o tp ms bs := ⟨h.sa.same s, h.md.same s, s _ _ h.ho, h.ta.same s, h.e1, h.e2, h.e3, h.e4, h.e5⟩
theorem JD.tape (h : JD K C H p dm db d o tp ms bs) (f : Off [tp] H H') (t : TapeAt K H' tp) : JD K C H' p dm db d o tp ms bs := by
  have tk := h.ta.tk f
  obtain ⟨l, hl⟩ := h.ta.lst
  obtain ⟨dx, hp⟩ := h.sa.ob
  obtain ⟨k1, hd⟩ := h.md.ob
  obtain ⟨k2, hm⟩ := h.sa.md.ob
  have hb := h.sa.bd
  refine ⟨h.sa.tk f tk ?_, h.md.tk f tk ?_, f _ _ h.ho ?_, t, h.e1, h.e2, h.e3, h.e4, h.e5⟩
  · intro x hx
    rw [List.mem_singleton.mp hx]
    exact ⟨ne_of hl hp (by intro z; cases z), ne_of hl hm (by intro z; cases z), ne_of hl hb (by intro z; cases z)⟩
  · simpa using ne_of hd hl (by intro z; cases z)
  · simpa using ne_of h.ho hl (by intro z; cases z)
theorem tape_off (h : TapeAt K H tp) {xs : List Addr} (f : Off xs H H') (n : ∀ x ∈ xs, ∃ kvs, H x = some (.dK kvs)) : TapeAt K H' tp := by
  obtain ⟨q, ns, i, rest, seed, h1, h2, h3⟩ := h
  refine ⟨q, ns, i, rest, seed, f _ _ h1 fun m => ?_, ?_, h3⟩
  · obtain ⟨k, e⟩ := n _ m; rw [h1] at e; cases e
  · rcases h2 with (h | ⟨u, h⟩) | h
    · exact .inl (.inl (f _ _ h fun m => by obtain ⟨k, e⟩ := n _ m; rw [h] at e; cases e))
    · exact .inl (.inr ⟨u, f _ _ h fun m => by obtain ⟨k, e⟩ := n _ m; rw [h] at e; cases e⟩)
    · exact .inr h
/-- the law's own dicts follow the sessions' -/
theorem JD.follow {H1 : Hp} (J : JD K C H p dm db d o tp ms bs) (of : Off [dm, db] H H1) (tk : TK H H1) : MD K H1 d ms ∧ H1 o = some (.dK bs) ∧ TapeAt K H1 tp :=
  ⟨J.md.tk of tk (by simp [J.e1, J.e2]), of _ _ J.ho (by simp [J.e3, J.e4]), tape_off J.ta of fun x hx => by
    simp only [List.mem_cons, List.not_mem_nil, or_false] at hx
    rcases hx with rfl | rfl
    · exact J.sa.md.ob
    · exact ⟨_, J.sa.bd⟩⟩
end
theorem kept_gd {ms : MS} {bs : BS} {h s c : Int} (g : ∀ m, lk ms h = some m → GM m) : GD 1 (keptD ms bs h s c) := by
  unfold keptD
  by_cases e : opn bs h = false ∨ c = 0
  · rw [if_pos e]; exact gd_none
  · rw [if_neg e]
    cases e2 : lk ms h with
    | none => exact gd_none
    | some m =>
      show GD 1 (if s = m.s ∧ c = m.c then m.a else .none)
      by_cases e3 : s = m.s ∧ c = m.c
      · rw [if_pos e3]; exact (g m e2).a
      · rw [if_neg e3]; exact gd_none
theorem kind_next {ms : MS} {bs : BS} {h : Int} {m : Mk4} (e : opn bs h = true) (e2 : lk ms h = some m) : kindS ms bs h m.s (m.c + 1) = "next" := by
  rw [kind_some e e2, if_neg (by omega), if_neg (by omega), if_neg (by omega)]
theorem kind_again {ms : MS} {bs : BS} {h : Int} {m : Mk4} (e : opn bs h = true) (e2 : lk ms h = some m) : kindS ms bs h m.s m.c = "again" := by
  rw [kind_some e e2, if_neg (by omega), if_neg (by omega), if_pos rfl]
def spDeed (K : PySem.W.Frag) (C : Addr) : Sp := fun vs H Q _ => ∃ p dm db d o tp ms bs, vs = [.ref p, .ref d, .ref o, .ref tp] ∧ JD K C H p dm db d o tp ms bs ∧ ms.length ≤ 800 ∧ bs.length ≤ 800 ∧
  ∀ H' ms' bs', JD K C H' p dm db d o tp ms' bs' → ms'.length ≤ ms.length + 1 → bs'.length ≤ bs.length + 1 → Off [dm, db, d, o, tp] H H' → TK H H' → Q (.bl true) H'
section
variable {P : Program} {wd : World} {K : PySem.W.Frag} {mg : Str → Option Value} {base : Heap} {f fN fT fC fK fE fB fP f1 f2 f3 C : Addr} {fd fdN fdT fdC fdK fdE fdB fdP fd1 fd2 fd3 : FuncData}
theorem scDeed : FnScope ["sessions", "marks", "opened", "tape", "host", "mark", "number", "counter", "word", "told", "got", "answer"] ["sessions", "marks", "opened", "tape"] (defScope sDeed) := ⟨rfl, rfl, rfl, by decide +kernel, rfl, by decide +kernel, by decide +kernel⟩
theorem ok_deed (F : Fun K "_law_deed" "_law_deed" sDeed f fd) (Tx : ST K mg C) (hmax : mg "max" = none)
    (GN : Def P wd K mg base CX0 "_law_next" 1 ["tape", "many"] (spNext K) fN fdN) (GT : Def P wd K mg base CX0 "_law_told" 1 ["marks", "host"] (spTold K) fT fdT) (GC : Def P wd K mg base CX0 "_law_connecting" 1 ["marks", "host", "number"] (spConn K) fC fdC)
    (GK : Def P wd K mg base CX0 "_law_kind" 1 ["marks", "opened", "host", "session", "counter"] (spKind K) fK fdK) (GE : Def P wd K mg base CX0 "_law_kept" 1 ["marks", "opened", "host", "session", "counter"] (spKept K) fE fdE)
    (GB : Def P wd K mg base CX0 "_law_begin" 4 ["sessions", "host", "number"] (spBegin K C) fB fdB) (GP : Def P wd K mg base CX0 "_law_keep" 3 ["sessions", "host", "answer"] (spKeep K C) fP fdP)
    (Mc : Mth P wd K mg base CX0 C "connecting" 2 ["self", "host", "number"] (spConnM K C) f1 fd1) (Mk : Mth P wd K mg base CX0 C "kind_of" 2 ["self", "host", "session", "counter"] (spKindM K C) f2 fd2) (Me : Mth P wd K mg base CX0 C "kept_answer" 2 ["self", "host", "session", "counter"] (spKeptM K C) f3 fd3) :
    FnOk P wd K mg base CX0 5 f fd ["sessions", "marks", "opened", "tape"] (spDeed K C) := by
  refine F.ok scDeed (fun vs H Q E h => ?_) (fun cdv A outer s H vs Q E hr h => ?_)
  · obtain ⟨p, dm, db, d, o, tp, ms, bs, rfl, _⟩ := h
    rfl
  · obtain ⟨p, dm, db, d, o, tp, ms, bs, rfl, J, n1, n2, k⟩ := h
    have hr1 : Room 1 _ := hr.mono (by decide)
    have hr2 : Room 2 _ := hr.mono (by decide)
    have hr3 : Room 3 _ := hr.mono (by decide)
    refine ⟨_, (pss_cons (ps_set (i := 4) scDeed.nd rfl (Or.inl rfl) (pe_call GN.ok hr1 (by rfl) GN.mg GN.kp GN.bd .nil pass0 (pa_cons (pv 3) (pa_cons pe_int pa_nil))))
      (pss_cons (ps_set (i := 5) scDeed.nd rfl (Or.inl rfl) (pe_dget2 (hu_of hr) (pv 1) (pv 4) (pe_tup (pa_cons pe_int (pa_cons pe_int (pa_cons pe_non (pa_cons pe_non pa_nil))))) ⟨rfl, rfl, rfl, rfl⟩))
      (pss_cons (ps_set (i := 6) scDeed.nd rfl (Or.inl rfl) (pe_callB (call_max2 rfl) (by rfl) hmax (by decide +kernel) (pa_cons pe_int (pa_cons (pe_op op_sub (pe_op op_add (pe_ix ix_tup (pv 5) pe_int (fun _ _ => rfl)) (pe_call GN.ok hr1 (by rfl) GN.mg GN.kp GN.bd .nil pass0 (pa_cons (pv 3) (pa_cons pe_int pa_nil)))) pe_int) pa_nil))))
      (pss_cons (ps_set (i := 7) scDeed.nd rfl (Or.inl rfl) (pe_callB (call_max2 rfl) (by rfl) hmax (by decide +kernel) (pa_cons pe_int (pa_cons (pe_op op_sub (pe_op op_add (pe_ix ix_tup (pv 5) pe_int (fun _ _ => rfl)) (pe_call GN.ok hr1 (by rfl) GN.mg GN.kp GN.bd .nil pass0 (pa_cons (pv 3) (pa_cons pe_int pa_nil)))) pe_int) pa_nil))))
      (pss_cons (ps_set (i := 8) scDeed.nd rfl (Or.inl rfl) (pe_call GC.ok hr1 (by rfl) GC.mg GC.kp GC.bd .nil pass0 (pa_cons (pv 1) (pa_cons (pv 4) (pa_cons (pv 6) pa_nil)))))
      (pss_cons (ps_if (pt_cmpR op_ne (pe_meth (pv 0) Tx.cl Mc.me Mc.ok hr2 Mc.bd .nil pass0 (pa_cons (pv 4) (pa_cons (pv 6) pa_nil))) (pv 8) (nomark _))
      (pss_one (ps_ret pe_bl)) pss_nil)
      (pss_cons (ps_if (pt_cmpR op_ne (pe_meth (pv 0) Tx.cl Mk.me Mk.ok hr2 Mk.bd .nil pass0 (pa_cons (pv 4) (pa_cons (pv 6) (pa_cons (pv 7) pa_nil)))) (pe_call GK.ok hr1 (by rfl) GK.mg GK.kp GK.bd .nil pass0 (pa_cons (pv 1) (pa_cons (pv 2) (pa_cons (pv 4) (pa_cons (pv 6) (pa_cons (pv 7) pa_nil)))))) (nomark _))
      (pss_one (ps_ret pe_bl)) pss_nil)
      (pss_cons (ps_if (pt_cmpR (op_neD hr.units) (pe_meth (pv 0) Tx.cl Me.me Me.ok hr2 Me.bd .nil pass0 (pa_cons (pv 4) (pa_cons (pv 6) (pa_cons (pv 7) pa_nil)))) (pe_call GE.ok hr1 (by rfl) GE.mg GE.kp GE.bd .nil pass0 (pa_cons (pv 1) (pa_cons (pv 2) (pa_cons (pv 4) (pa_cons (pv 6) (pa_cons (pv 7) pa_nil)))))) (nomark _))
      (pss_one (ps_ret pe_bl)) pss_nil)
      (pss_cons (ps_if (pt_cmpR op_eq (pe_call GN.ok hr1 (by rfl) GN.mg GN.kp GN.bd .nil pass0 (pa_cons (pv 3) (pa_cons pe_int pa_nil))) pe_int (nomark _))
      (pss_cons (ps_set (i := 9) scDeed.nd rfl (Or.inl rfl) (pe_call GT.ok hr1 (by rfl) GT.mg GT.kp GT.bd .nil pass0 (pa_cons (pv 1) (pa_cons (pv 4) pa_nil))))
      (pss_cons (ps_set (i := 10) scDeed.nd rfl (Or.inl rfl) (pe_call GB.ok hr (by rfl) GB.mg GB.kp GB.bd .nil pass0 (pa_cons (pv 0) (pa_cons (pv 4) (pa_cons (pv 6) pa_nil)))))
      (pss_cons (ps_if (pt_cmpR op_ne (pv 8) pe_str (nomark _))
      (pss_one (ps_ret (pe_cmpR op_isB (pv 10) pe_bl (nomark _)))) pss_nil)
      (pss_cons (ps_dput (hu_of hr) (pv 1) (pv 4) (pe_tup (pa_cons (pv 6) (pa_cons pe_int (pa_cons pe_non (pa_cons (pv 9) pa_nil))))) rfl)
      (pss_cons (ps_dput (hu_of hr) (pv 2) (pv 4) pe_bl rfl)
      (pss_one (ps_ret (pe_cmpR (op_eqD hr.units) (pv 10) (pe_lst (pa_cons (pv 9) pa_nil)) (nomark _))))))))) pss_nil)
      (pss_cons (ps_set (i := 11) scDeed.nd rfl (Or.inl rfl) (pe_tup (pa_cons (pe_ix ix_list (pe_lst (pa_cons pe_str (pa_cons pe_str (pa_cons pe_str pa_nil)))) (pe_call GN.ok hr1 (by rfl) GN.mg GN.kp GN.bd .nil pass0 (pa_cons (pv 3) (pa_cons pe_int pa_nil))) (fun _ _ => rfl)) (pa_cons (pe_call GN.ok hr1 (by rfl) GN.mg GN.kp GN.bd .nil pass0 (pa_cons (pv 3) (pa_cons pe_int pa_nil))) pa_nil))))
      (pss_cons (ps_if (pt_cmp (pc_dnotin (hu_of hr) (pv 4) (pv 2)))
      (pss_one (ps_ret (pe_cmpR op_isB (pe_call GP.ok hr3 (by rfl) GP.mg GP.kp GP.bd .nil pass0 (pa_cons (pv 0) (pa_cons (pv 4) (pa_cons (pv 11) pa_nil)))) pe_bl (nomark _)))) pss_nil)
      (pss_cons (ps_if (PW.pt (pw_or (pt_cmpR op_ne (pe_meth (pv 0) Tx.cl Mk.me Mk.ok hr2 Mk.bd .nil pass0 (pa_cons (pv 4) (pa_cons (pe_ix ix_tup (pv 5) pe_int (fun _ _ => rfl)) (pa_cons (pe_op op_add (pe_ix ix_tup (pv 5) pe_int (fun _ _ => rfl)) pe_int) pa_nil)))) pe_str (nomark _)) (pw_or1 (pt_cmpR (op_neD hr.units) (pe_call GP.ok hr3 (by rfl) GP.mg GP.kp GP.bd .nil pass0 (pa_cons (pv 0) (pa_cons (pv 4) (pa_cons (pv 11) pa_nil)))) (pe_lst (pa_cons pe_non pa_nil)) (nomark _)))))
      (pss_one (ps_ret pe_bl)) pss_nil)
      (pss_cons (ps_dput (hu_of hr) (pv 1) (pv 4) (pe_tup (pa_cons (pe_ix ix_tup (pv 5) pe_int (fun _ _ => rfl)) (pa_cons (pe_op op_add (pe_ix ix_tup (pv 5) pe_int (fun _ _ => rfl)) pe_int) (pa_cons (pv 11) (pa_cons (pe_ix ix_tup (pv 5) pe_int (fun _ _ => rfl)) pa_nil))))) rfl)
      (pss_one (ps_ret (pe_cmpR op_eq (pe_meth (pv 0) Tx.cl Mk.me Mk.ok hr2 Mk.bd .nil pass0 (pa_cons (pv 4) (pa_cons (pe_ix ix_tup (pv 5) pe_int (fun _ _ => rfl)) (pa_cons (pe_op op_add (pe_ix ix_tup (pv 5) pe_int (fun _ _ => rfl)) pe_int) pa_nil)))) pe_str (nomark _))))))))))))))))), ?_⟩
    -- host = _law_next(tape, 4)
    refine ⟨_, rfl, tp, 4, rfl, J.ta, by decide, by decide, fun h H1 h0 h1 o1 t1 => ?_⟩
    have J1 := J.tape o1 t1
    have O1 : Off [dm, db, d, o, tp] H H1 := fun b u e n => o1 _ _ e (by simp at n; simp [n])
    have K1 : TK H H1 := J.ta.tk o1
    -- mark = marks.get(host, (1, 0, None, None))
    obtain ⟨kvs, hd, pr⟩ := id J1.md
    refine ⟨_, rfl, d, rfl, .inl ⟨kvs, .inl hd⟩, _, rfl, by show 4 ≤ sizeLine; decide, fun t ht => ?_⟩
    have s2 := same_new (o := .tup [.int 1, .int 0, .non, .non]) ht
    have ht2 : (upd H1 t (.tup [.int 1, .int 0, .non, .non])) t = some (.tup [.int 1, .int 0, .non, .non]) := upd_same
    generalize upd H1 t (.tup [.int 1, .int 0, .non, .non]) = H2 at s2 ht2
    have J2 := J1.same s2
    refine ⟨_, dget H2 (s2 _ _ hd), ?_⟩
    obtain ⟨m, a, av, tv, ev, hm1, hm2, hm3, hml⟩ : ∃ (m : Mk4) (a : Addr) (av tv : V), (valV kvs (Sum.inl h)).getD (.ref t) = .ref a ∧ SqT K H2 a [.int m.s, .int m.c, av, tv] ∧ Dp K H2 av m.a ∧ Dp K H2 tv m.t ∧ (lk ms h = some m ∨ lk ms h = none) := by
      rcases pr_get (pr_tk pr (TK.of s2)) h with ⟨e1, e2⟩ | ⟨m, v, e1, e2, ⟨a, av, tv, rfl, z1, z2, z3⟩, g⟩
      · exact ⟨⟨1, 0, .none, .none⟩, t, .non, .non, by rw [e2]; rfl, SqT.of ht2, .non, .non, .inr e1⟩
      · exact ⟨m, a, av, tv, by rw [e2]; rfl, z1, z2, z3, .inl e1⟩
    rw [ev]
    have O2 := O1.trans (Off.of s2)
    have K2 := K1.trans (TK.of s2)
    -- number, counter
    refine ⟨_, rfl, a, _, _, _, rfl, rfl, hm1, atI_nat (j := 0) rfl, _, rfl, tp, 4, rfl, J2.ta, by decide, by decide, fun r3 H3 _ _ o3 t3 => ⟨_, _, rfl, rfl, _, _, rfl, rfl, nil_ ⟨_, _, rfl, ?_⟩⟩⟩
    generalize (if m.s + r3 - 1 > 1 then m.s + r3 - 1 else (1 : Int)) = n
    have J3 := J2.tape o3 t3
    have O3 := O2.trans (fun b u e n => o3 b u e (by simp at n; simp [n]) : Off [dm, db, d, o, tp] H2 H3)
    have K23 : TK H2 H3 := J2.ta.tk o3
    have K3 := K2.trans K23
    have hm1' := sqT_tk hm1 K23
    refine ⟨_, rfl, a, _, _, _, rfl, rfl, hm1', atI_nat (j := 1) rfl, _, rfl, tp, 4, rfl, J3.ta, by decide, by decide, fun r4 H4 _ _ o4 t4 => ⟨_, _, rfl, rfl, _, _, rfl, rfl, nil_ ⟨_, _, rfl, ?_⟩⟩⟩
    generalize (if m.c + r4 - 1 > 1 then m.c + r4 - 1 else (1 : Int)) = c
    have J4 := J3.tape o4 t4
    have O4 := O3.trans (fun b u e n => o4 b u e (by simp at n; simp [n]) : Off [dm, db, d, o, tp] H3 H4)
    have K34 : TK H3 H4 := J3.ta.tk o4
    have K4 := K3.trans K34
    have K24 := K23.trans K34
    clear hm1'
    obtain ⟨dx, hp4⟩ := J4.sa.ob
    -- word = _law_connecting(marks, host, number)
    refine ⟨_, rfl, _, rfl, _, rfl, d, ms, h, n, rfl, J4.md, ?_⟩
    -- sessions.connecting(host, number) != word
    refine ⟨_, rfl, p, dx, _, rfl, hp4, sf_no (by decide +kernel), _, rfl, _, rfl, p, dm, db, ms, bs, h, n, rfl, J4.sa, _, rfl, rfl, _, rfl, ?_⟩
    rw [str_eqT]
    -- sessions.kind_of(..) != _law_kind(..)
    refine iteF ⟨_, rfl, p, dx, _, rfl, hp4, sf_no (by decide +kernel), _, rfl, _, rfl, _, rfl, p, dm, db, ms, bs, h, n, c, rfl, J4.sa, ?_⟩
    refine ⟨_, rfl, _, rfl, _, rfl, _, rfl, _, rfl, d, o, ms, bs, h, n, c, rfl, J4.md, J4.ho, J4.sa.cv, rfl, _, rfl, ?_⟩
    rw [str_eqT]
    -- sessions.kept_answer(..) != _law_kept(..)
    refine iteF ⟨_, rfl, p, dx, _, rfl, hp4, sf_no (by decide +kernel), _, rfl, _, rfl, _, rfl, p, dm, db, ms, bs, h, n, c, rfl, J4.sa, fun v5 H5 s5 hv5 => ?_⟩
    have J5 := J4.same s5
    refine ⟨_, rfl, _, rfl, _, rfl, _, rfl, _, rfl, d, o, ms, bs, h, n, c, rfl, J5.md, J5.ho, J5.sa.cv, fun v6 H6 s6 hv6 => ?_⟩
    have gk : GD 1 (keptD ms bs h n c) := kept_gd fun m e => J.md.gm e
    refine ⟨_, _, dp_tk (TK.of s6) _ _ gk.t hv5, hv6, gk.sh (by decide), gk.sh (by decide), _, rfl, ?_⟩
    rw [SeqAt.eqv_refl _ gk.l]
    have J6 := J5.same s6
    -- if _law_next(tape, 3) == 0
    refine iteF ⟨_, rfl, tp, 3, rfl, J6.ta, by decide, by decide, fun r7 H7 _ _ o7 t7 => ⟨rfl, _, rfl, ?_⟩⟩
    have J7 := J6.tape o7 t7
    have O7 := ((O4.trans (Off.of s5)).trans (Off.of s6)).trans (fun b u e n => o7 b u e (by simp at n; simp [n]) : Off [dm, db, d, o, tp] H6 H7)
    have K67 : TK H6 H7 := J6.ta.tk o7
    have K27 := ((K24.trans (TK.of s5)).trans (TK.of s6)).trans K67
    have K7 := K2.trans K27
    have hm17 := sqT_tk hm1 K27
    refine ite2 (fun _ => ?_) (fun _ => ?_)
    · -- told = _law_told(marks, host); got = _law_begin(sessions, host, number)
      refine ⟨_, rfl, _, rfl, d, ms, h, rfl, J7.md, fun v8 H8 s8 hv8 => ?_⟩
      have J8 := J7.same s8
      have gn : GD 2 (ntD ms h) := nt_gd fun m e => J.md.gm e
      refine ⟨_, rfl, _, rfl, _, rfl, p, dm, db, ms, bs, h, n, rfl, J8.sa, by omega, by omega, fun nc => ?_, fun nc l v9 H9 o9 k9 S9 hl9 hv9 => ?_⟩
      · refine ⟨_, rfl, rfl, _, rfl, ?_⟩
        rw [str_eqF nc]
        refine iteT ⟨_, rfl, true, true, rfl, rfl, ?_⟩
        exact k _ ms bs J8 (by omega) (by omega) (O7.trans (Off.of s8)) (K7.trans (TK.of s8))
      · refine ⟨_, rfl, rfl, _, rfl, ?_⟩
        rw [nc, str_eqT]
        obtain ⟨M9, ho9, t9⟩ := J8.follow o9 k9
        have v8' := dp_tk k9 _ _ gn.t hv8
        obtain ⟨dx9, hp9⟩ := S9.ob
        -- marks[host] = (number, 0, None, told)
        refine iteF ⟨_, rfl, _, rfl, by show 4 ≤ sizeLine; decide, fun t ht => ?_⟩
        have sA := same_new (o := .tup [.int n, .int 0, .non, v8]) ht
        have htA : (upd H9 t (.tup [.int n, .int 0, .non, v8])) t = some (.tup [.int n, .int 0, .non, v8]) := upd_same
        generalize upd H9 t (.tup [.int n, .int 0, .non, v8]) = HA at sA htA
        obtain ⟨kv9, hd9, pr9⟩ := M9
        have hdA := sA _ _ hd9
        have gm : GM ⟨n, 0, .none, ntD ms h⟩ := ⟨gd_none, gn⟩
        have mv : MkV K HA (.ref t) ⟨n, 0, .none, ntD ms h⟩ := ⟨t, .non, v8, rfl, SqT.of htA, .non, dp_same sA _ _ v8'⟩
        obtain ⟨MB, tkB⟩ := MD.put (i := h) hdA (pr_tk pr9 (TK.of sA)) mv gm
        refine ⟨_, rfl, _, rfl, d, _, rfl, DPut.k (k := Sum.inl h) hdA (small1000 (by have := pr_len pr9; omega)), ?_⟩
        have oB : Off [d] HA (upd HA d (.dK (putK kv9 (Sum.inl h) (.ref t)))) := Off.upd (by simp)
        have npd : p ≠ d := ne_of hp9 hd9 (by intro z; cases z)
        have SB := (S9.same sA).tk oB tkB (by simp [J.e1, J.e2, npd.symm])
        have hoB : (upd HA d (.dK (putK kv9 (Sum.inl h) (.ref t)))) o = some (.dK bs) := by rw [upd_ne J.e5.symm]; exact sA _ _ ho9
        have tB : TapeAt K (upd HA d (.dK (putK kv9 (Sum.inl h) (.ref t)))) tp := tape_off (t9.same sA) oB (by intro x hx; rw [List.mem_singleton.mp hx]; exact ⟨_, hdA⟩)
        generalize upd HA d (.dK (putK kv9 (Sum.inl h) (.ref t))) = HB at MB tkB oB SB hoB tB
        -- opened[host] = True
        refine ⟨_, rfl, _, rfl, o, _, rfl, DPut.k (k := Sum.inl h) hoB (small1000 (by omega)), ?_⟩
        have oC : Off [o] HB (upd HB o (.dK (putK bs (Sum.inl h) (.bl true)))) := Off.upd (by simp)
        have tkC : TK HB (upd HB o (.dK (putK bs (Sum.inl h) (.bl true)))) := TK.off oC (by intro x hx; rw [List.mem_singleton.mp hx]; exact .inr ⟨_, hoB⟩)
        have npo : p ≠ o := ne_of hp9 ho9 (by intro z; cases z)
        have SC := SB.tk oC tkC (by simp [J.e3, J.e4, npo.symm])
        have MC := MB.tk oC tkC (by simpa using J.e5)
        have hoC : (upd HB o (.dK (putK bs (Sum.inl h) (.bl true)))) o = some (.dK (putK bs (Sum.inl h) (.bl true))) := upd_same
        have tC := tape_off tB oC (by intro x hx; rw [List.mem_singleton.mp hx]; exact ⟨_, hoB⟩)
        generalize upd HB o (.dK (putK bs (Sum.inl h) (.bl true))) = HC at oC tkC SC MC hoC tC
        -- return got == [told]
        refine ⟨_, rfl, _, rfl, by show 1 ≤ sizeLine; decide, fun l2 hl2 => ?_⟩
        have sD := same_new (o := .lst [v8]) hl2
        have hl2' : (upd HC l2 (.lst [v8])) l2 = some (.lst [v8]) := upd_same
        generalize upd HC l2 (.lst [v8]) = HD at sD hl2'
        have hlB : HB l = some (.lst [v9]) := oB _ _ (sA _ _ hl9) (by simpa using ne_of hl9 hd9 (by intro z; cases z))
        have hlD : HD l = some (.lst [v9]) := sD _ _ (oC _ _ hlB (by simpa using ne_of hl9 ho9 (by intro z; cases z)))
        have tk9D : TK H9 HD := (((TK.of sA).trans tkB).trans tkC).trans (TK.of sD)
        have sh1 := gd_list1 gn (by decide)
        refine ⟨_, _, .lst (SqL.of hlD) (.cons (dp_tk tk9D _ _ gn.t hv9) .nil), .lst (SqL.of hl2') (.cons (dp_tk tk9D _ _ gn.t v8') .nil), sh1, sh1, ?_⟩
        rw [SeqAt.eqv_refl _ (SeqAt.canLay_of_shaped sh1)]
        refine k HD _ _ ⟨SC.same sD, MC.same sD, sD _ _ hoC, tC.same sD, J.e1, J.e2, J.e3, J.e4, J.e5⟩ (pt_len _ _ _) (putK_len _ _ _) ?_ (((K7.trans (TK.of s8)).trans k9).trans tk9D)
        have u9 : Off [dm, db, d, o, tp] H8 H9 := fun b u e n => o9 b u e (by simp at n; simp [n])
        have uB : Off [dm, db, d, o, tp] HA HB := fun b u e n => oB b u e (by simp at n; simp [n])
        have uC : Off [dm, db, d, o, tp] HB HC := fun b u e n => oC b u e (by simp at n; simp [n])
        exact (((((O7.trans (Off.of s8)).trans u9).trans (Off.of sA)).trans uB).trans uC).trans (Off.of sD)
    · -- answer = (.., ..)
      refine ⟨by show 3 ≤ sizeLine; decide, fun l hl => ?_⟩
      generalize hH8 : upd H7 l _ = H8
      have s8 : Same H7 H8 := by rw [← hH8]; exact same_new hl
      have hl8 : H8 l = some (.lst ((["ok", "conflict", "room"] : List Str).map V.str)) := by rw [← hH8]; exact upd_same
      have J8 := J7.same s8
      have nlt : l ≠ tp := fun e => by
        obtain ⟨x, hx⟩ := J7.ta.lst
        rw [e, hx] at hl; cases hl
      refine ⟨_, rfl, tp, 3, rfl, J8.ta, by decide, by decide, fun r9 H9 r0 r1 o9 t9 => ?_⟩
      have hr9 : r9.toNat < (["ok", "conflict", "room"] : List Str).length := by show r9.toNat < 3; omega
      refine ⟨l, _, _, V.str ((["ok", "conflict", "room"] : List Str)[r9.toNat]), rfl, rfl, SqL.of (o9 _ _ hl8 (by simpa using nlt)), ?_, ?_⟩
      · have := atI_nat (get_map (f := V.str) (List.getElem?_eq_getElem hr9))
        rw [show ((r9.toNat : Nat) : Int) = r9 by omega] at this
        exact this
      have hw : PyData.strOk ((["ok", "conflict", "room"] : List Str)[r9.toNat]) = true := (show ∀ y ∈ (["ok", "conflict", "room"] : List Str), PyData.strOk y = true by decide +kernel) _ (List.getElem_mem hr9)
      generalize (["ok", "conflict", "room"] : List Str)[r9.toNat] = w at hw
      have J9 := J8.tape o9 t9
      refine ⟨_, rfl, tp, 9, rfl, J9.ta, by decide, by decide, fun r10 H10 _ _ o10 t10 => ⟨by show 2 ≤ sizeLine; decide, fun t ht => ?_⟩⟩
      have J10 := J9.tape o10 t10
      have sA := same_new (o := .tup [.str w, .int r10]) ht
      have htA : (upd H10 t (.tup [.str w, .int r10])) t = some (.tup [.str w, .int r10]) := upd_same
      generalize upd H10 t (.tup [.str w, .int r10]) = HA at sA htA
      have JA := J10.same sA
      have KA7 : TK H7 HA := (((TK.of s8).trans (J8.ta.tk o9)).trans (J9.ta.tk o10)).trans (TK.of sA)
      have hmA := sqT_tk hm17 KA7
      have K2A := K27.trans KA7
      have KA := K7.trans KA7
      have OA : Off [dm, db, d, o, tp] H HA := (((O7.trans (Off.of s8)).trans (fun b u e n => o9 b u e (by simp at n; simp [n]))).trans (fun b u e n => o10 b u e (by simp at n; simp [n]))).trans (Off.of sA)
      have ga : GD 1 (.tuple [.str w, .int r10]) := gd_tup2 (n := 0) ⟨rfl, by simpa [PyData.canLay0] using hw, by simp [PyData.depth]⟩ gd_int
      have da : Dp K HA (.ref t) (.tuple [.str w, .int r10]) := .tup (SqT.of htA) (.cons (.str _) (.cons (.int _) .nil))
      -- if host not in opened
      refine ⟨_, rfl, _, rfl, o, _, rfl, dget HA JA.ho, _, rfl, ?_⟩
      cases ho : opn bs h with
      | false =>
        rw [show (valV bs (Sum.inl h)).isSome = false from ho]
        refine iteT ⟨_, rfl, _, rfl, _, rfl, p, dm, db, ms, bs, h, .ref t, _, rfl, JA.sa, by omega, da, ga, fun _ => ⟨true, true, rfl, rfl, ?_⟩, fun c => by rw [ho] at c; cases c⟩
        exact k HA ms bs JA (by omega) (by omega) OA KA
      | true =>
        rw [show (valV bs (Sum.inl h)).isSome = true from ho]
        have hm : lk ms h = some m := by
          rcases hml with e | e
          · exact e
          · obtain ⟨m2, z⟩ := J.sa.cv h ho
            rw [e] at z; cases z
        obtain ⟨dxA, hpA⟩ := JA.sa.ob
        refine iteF ⟨_, rfl, p, dxA, _, rfl, hpA, sf_no (by decide +kernel), _, rfl, _, rfl, a, _, _, _, rfl, rfl, hmA, atI_nat (j := 0) rfl, _, rfl, a, _, _, _, rfl, rfl, hmA, atI_nat (j := 1) rfl, _, _, rfl, rfl, nil_ ⟨p, dm, db, ms, bs, h, m.s, m.c + 1, rfl, JA.sa, rfl, _, rfl, ?_⟩⟩
        rw [kind_next ho hm, str_eqT]
        refine iteF ⟨_, rfl, _, rfl, _, rfl, p, dm, db, ms, bs, h, .ref t, _, rfl, JA.sa, by omega, da, ga, (fun nc => by rw [ho] at nc; cases nc), fun _ m' l3 HB hm' oB tkB SB hl3 => ?_⟩
        rw [hm] at hm'; cases hm'
        refine ⟨by show 1 ≤ sizeLine; decide, fun l2 hl2 => ?_⟩
        have sC := same_new (o := .lst [.non]) hl2
        have hl2' : (upd HB l2 (.lst [.non])) l2 = some (.lst [.non]) := upd_same
        generalize upd HB l2 (.lst [.non]) = HC at sC hl2'
        have sh1 : SeqAt.shaped (.list [.none]) = true := by decide
        refine ⟨.list [.none], .list [.none], .lst (SqL.of (sC _ _ hl3)) (.cons .non .nil), .lst (SqL.of hl2') (.cons .non .nil), sh1, sh1, _, rfl, ?_⟩
        rw [SeqAt.eqv_refl _ (SeqAt.canLay_of_shaped sh1)]
        obtain ⟨MB, hoB, tB⟩ := JA.follow (H1 := HB) (fun b u e n => oB b u e (by simp at n; simp [n])) tkB
        have tkAC : TK HA HC := tkB.trans (TK.of sC)
        have hmC := sqT_tk hmA tkAC
        have g := J.md.gm hm
        have dav := dp_tk (K2A.trans tkAC) _ _ g.a.t hm2
        have dtv := dp_tk (K2A.trans tkAC) _ _ g.t.t hm3
        have dac := dp_tk tkAC _ _ ga.t da
        have SC := SB.same sC
        -- marks[host] = (mark[0], mark[1] + 1, answer, mark[3])
        refine iteF ⟨_, rfl, a, _, _, _, rfl, rfl, hmC, atI_nat (j := 0) rfl, _, rfl, a, _, _, _, rfl, rfl, hmC, atI_nat (j := 1) rfl, _, _, rfl, rfl, _, rfl, _, rfl, a, _, _, _, rfl, rfl, hmC, atI_nat (j := 3) rfl, by show 4 ≤ sizeLine; decide, fun t2 ht2 => ?_⟩
        have sD := same_new (o := .tup [.int m.s, .int (m.c + 1), .ref t, tv]) ht2
        have htD : (upd HC t2 (.tup [.int m.s, .int (m.c + 1), .ref t, tv])) t2 = some (.tup [.int m.s, .int (m.c + 1), .ref t, tv]) := upd_same
        generalize upd HC t2 (.tup [.int m.s, .int (m.c + 1), .ref t, tv]) = HD at sD htD
        obtain ⟨kvB, hdB, prB⟩ := MB
        have hdD := sD _ _ (sC _ _ hdB)
        have gm : GM ⟨m.s, m.c + 1, .tuple [.str w, .int r10], m.t⟩ := ⟨ga, g.t⟩
        have mv : MkV K HD (.ref t2) ⟨m.s, m.c + 1, .tuple [.str w, .int r10], m.t⟩ := ⟨t2, .ref t, tv, rfl, SqT.of htD, dp_same sD _ _ dac, dp_same sD _ _ dtv⟩
        obtain ⟨ME, tkE⟩ := MD.put (i := h) hdD (pr_tk prB ((TK.of sC).trans (TK.of sD))) mv gm
        refine ⟨_, rfl, _, rfl, d, _, rfl, DPut.k (k := Sum.inl h) hdD (small1000 (by have := pr_len prB; omega)), ?_⟩
        have oE : Off [d] HD (upd HD d (.dK (putK kvB (Sum.inl h) (.ref t2)))) := Off.upd (by simp)
        have npd : p ≠ d := ne_of hpA (JA.md.choose_spec.1) (by intro z; cases z)
        have SE := (SC.same sD).tk oE tkE (by simp [J.e1, J.e2, npd.symm])
        have hoE : (upd HD d (.dK (putK kvB (Sum.inl h) (.ref t2)))) o = some (.dK bs) := by rw [upd_ne J.e5.symm]; exact sD _ _ (sC _ _ hoB)
        have tE : TapeAt K (upd HD d (.dK (putK kvB (Sum.inl h) (.ref t2)))) tp := tape_off ((tB.same sC).same sD) oE (by intro x hx; rw [List.mem_singleton.mp hx]; exact ⟨_, hdD⟩)
        generalize upd HD d (.dK (putK kvB (Sum.inl h) (.ref t2))) = HE at ME tkE oE SE hoE tE
        have hmE := sqT_tk hmC ((TK.of sD).trans tkE)
        obtain ⟨dxE, hpE⟩ := SE.ob
        -- return sessions.kind_of(host, mark[0], mark[1] + 1) == "again"
        refine ⟨_, rfl, p, dxE, _, rfl, hpE, sf_no (by decide +kernel), _, rfl, _, rfl, a, _, _, _, rfl, rfl, hmE, atI_nat (j := 0) rfl, _, rfl, a, _, _, _, rfl, rfl, hmE, atI_nat (j := 1) rfl, _, _, rfl, rfl, nil_ ⟨p, dm, db, _, bs, h, m.s, m.c + 1, rfl, SE, rfl, ?_⟩⟩
        rw [kind_again ho (lk_pt ms h ⟨m.s, m.c + 1, .tuple [.str w, .int r10], m.t⟩), str_eqT]
        refine k HE _ bs ⟨SE, ME, hoE, tE, J.e1, J.e2, J.e3, J.e4, J.e5⟩ (pt_len _ _ _) (by omega) ?_ (((KA.trans tkAC).trans (TK.of sD)).trans tkE)
        have uB : Off [dm, db, d, o, tp] HA HB := fun b u e n => oB b u e (by simp at n; simp [n])
        have uE : Off [dm, db, d, o, tp] HD HE := fun b u e n => oE b u e (by simp at n; simp [n])
        exact (((OA.trans uB).trans (Off.of sC)).trans (Off.of sD)).trans uE
end
end Sg

set_option Elab.async false
set_option linter.all false
set_option maxRecDepth 100000
set_option maxHeartbeats 4000000
namespace Sg
open PySem PySem.Spec PyProof.Rows L2
/-! ### == of two dicts that hold the same objects -/
section
variable {X : Cx}
def rEqDS : R2 := fun x y H Q => ∃ (a b : Addr) (kvs : List (Key × V)), x = .ref a ∧ y = .ref b ∧ H a = some (.dK kvs) ∧ H b = some (.dK kvs) ∧ (kvs.map (·.1)).Nodup ∧ (∀ p ∈ kvs, ∃ q, p.2 = .ref q) ∧ Q (.bl true) H
theorem hits_refs {A : Around} {s : Shared} {kvs : List (Key × V)} {vb : List (Key × Value)} (rb : KV kvs vb) : ∀ {ks : List (Key × V)} {va : List (Key × Value)}, KV ks va → (∀ p ∈ ks, valV kvs p.1 = some p.2 ∧ ∃ q, p.2 = .ref q) → PySem.W.KeqHits A s vb va true := by
  intro ks va rel
  unfold KV at rel
  induction rel with
  | nil => exact fun _ => .nil
  | @cons one two rest rest' hh _ again =>
    intro all
    obtain ⟨same1, same2⟩ := hh
    obtain ⟨found, q, isq⟩ := all one List.mem_cons_self
    have got : RelO (some one.2) (valueAt vb one.1) := found ▸ rb.val one.1
    obtain ⟨w, hw, rw'⟩ := got.some_of
    obtain ⟨k2, v2⟩ := two
    rw [show one.1 = k2 from same1] at hw
    rw [isq] at same2 rw'
    have e1 : v2 = Value.ref q := same2
    have e2 : w = Value.ref q := rw'
    subst e1 e2
    have tail := again fun p m => all p (List.mem_cons_of_mem _ m)
    show PySem.W.KeqHits A s vb _ (true && true)
    exact .hit hw (SeqAt.EqAt.same _) tail
theorem op_eq_dictS (room : X.A.units < cLine) : OpR X (compareOp .Eq) rEqDS := by
  intro pins s σ H x y v u Q inv rx ry hyp
  obtain ⟨a, b, kvs, rfl, rfl, at1, at2, nd, refs, q⟩ := hyp
  cases (show v = Value.ref a from rx)
  cases (show u = Value.ref b from ry)
  obtain ⟨_, n1, l1, r1, d1⟩ := (show ObjOk X.prog X.w H s.heap a (.dK kvs) from inv.hok a _ at1)
  obtain ⟨_, n2, l2, r2, d2⟩ := (show ObjOk X.prog X.w H s.heap b (.dK kvs) from inv.hok b _ at2)
  have len : l1.length = l2.length := by rw [← r1.length, ← r2.length]
  refine PySem.W.keq_eq (knd := mixKind X.prog X.w) (r := true) n1 n2 d1 d2 room (fun _ => hits_refs r2 r1 fun p m => ⟨val_nodup nd p m, refs p m⟩) ?_
  exact fin_bl inv q (by simp [len])
end
theorem val_none {l : List (Key × V)} {k : Key} (h : k ∉ l.map (·.1)) : valV l k = none := by
  have : l.find? (fun kv => decide (kv.1 = k)) = none := by
    rw [List.find?_eq_none]
    intro x hx e
    exact h (List.mem_map.mpr ⟨x, hx, of_decide_eq_true e⟩)
  simp [valV, this]
/-- {k: d[k] for k in d}: a dict with the same entries -/
theorem dc_keys {d D : Addr} {od : Obj} {kvs : List (Key × V)} {tk tv : TE} {vs : List Nat} {j : Nat} {σ : L2.St} {H1 : Hp} {Qd : Hp → Prop} (nd : (kvs.map (·.1)).Nodup) (hD : H1 D = none) (hd : H1 d = some (.frz od (.dK kvs))) (hz : kvs.length < sizeLine)
    (hw : ∀ x, wipe ((wipe σ vs).set j (some x)) vs = wipe σ vs)
    (he : ∀ (k : Key) (v : V) (H' : Hp), (k, v) ∈ kvs → H' d = some (.frz od (.dK kvs)) → (∀ Q' : VK, Q' (kV k) H' → tk ((wipe σ vs).set j (some (kV k))) H' Q') ∧ (∀ Q' : VK, Q' v H' → tv ((wipe σ vs).set j (some (kV k))) H' Q'))
    (hq : Qd (upd H1 D (.dK kvs))) :
    ∃ W : Nat → Nat → Hp → Prop, (∃ m, W 0 m (upd H1 D (.dK []))) ∧ ∀ i m H, W i m H → ((Itk d od kvs).stop i H ∧ Qd H) ∨ ((Itk d od kvs).go i H ∧ ∃ Nx : Hp → Prop, (∀ H', Nx H' → ∃ m', m' < m ∧ W (i + 1) m' H') ∧ ∀ x H', (Itk d od kvs).yld i H x H' →
      gName j x (wipe σ vs) H' fun σ2 H2 => wipe σ2 vs = wipe σ vs ∧ tYes σ2 H2 fun b H3 => if b = true then tk σ2 H3 fun y H4 => tv σ2 H4 fun z H5 => ∃ kvs' k, y = kV k ∧ H5 D = some (.dK kvs') ∧ kvs'.length < sizeLine ∧ Nx (upd H5 D (.dK (putK kvs' k z))) else Nx H3) := by
  have ndD : d ≠ D := ne_of_none hd hD
  refine ⟨fun i m H => m = kvs.length - i ∧ i ≤ kvs.length ∧ H = upd H1 D (.dK (kvs.take i)), ⟨kvs.length, by simp⟩, ?_⟩
  rintro i m H ⟨rfl, hi, rfl⟩
  have hd' : (upd H1 D (.dK (kvs.take i))) d = some (.frz od (.dK kvs)) := by rw [upd_ne ndD]; exact hd
  by_cases hlt : i < kvs.length
  · refine .inr ⟨⟨hd', hlt⟩, fun H' => H' = upd H1 D (.dK (kvs.take (i + 1))), fun H' p => ⟨kvs.length - (i + 1), by omega, rfl, by omega, p⟩, ?_⟩
    rintro x H' ⟨rfl, k, v, hkv, rfl⟩
    obtain ⟨h1, h2⟩ := he k v _ (List.mem_of_getElem? hkv) hd'
    refine ⟨hw _, yesIte (h1 _ (h2 _ ⟨kvs.take i, k, rfl, upd_same, by rw [List.length_take]; omega, ?_⟩))⟩
    have nk : k ∉ (kvs.take i).map (·.1) := by
      rw [List.map_take]
      intro hm
      obtain ⟨j, hj, ej⟩ := List.mem_take_iff_getElem.mp hm
      have hi2 : (kvs.map (·.1))[i]? = some k := by rw [List.getElem?_map, hkv]; rfl
      have hj2 : (kvs.map (·.1))[j]? = some k := by rw [List.getElem?_eq_getElem (by omega)]; exact congrArg some ej
      have hjl : j < (kvs.map (·.1)).length := by omega
      have := (List.getElem?_inj hjl nd).mp (hj2.trans hi2.symm)
      omega
    rw [putK_new v (val_none nk), upd_upd, List.take_add_one, hkv]; rfl
  · have e : i = kvs.length := by omega
    subst e
    refine .inl ⟨⟨hd', Nat.le_refl _⟩, ?_⟩
    rw [List.take_length]; exact hq
/-! ### the constructor -/
def KN (ms : MS) : Prop := (ms.map (·.1)).Nodup
theorem pr_keys {K : PySem.W.Frag} {H : Hp} {kvs : List (Key × V)} {ms : MS} (h : Paired (MR1 K H) kvs ms) : kvs.map (·.1) = ms.map (fun x => (Sum.inl x.1 : Key)) := by
  induction h with
  | nil => rfl
  | cons r _ ih => rw [List.map_cons, List.map_cons, ih, r.1]
theorem pr_nodup {K : PySem.W.Frag} {H : Hp} {kvs : List (Key × V)} {ms : MS} (h : Paired (MR1 K H) kvs ms) (n : KN ms) : (kvs.map (·.1)).Nodup := by
  rw [pr_keys h]
  unfold KN at n
  rw [List.nodup_iff_pairwise_ne] at n ⊢
  rw [List.pairwise_map] at n ⊢
  exact n.imp fun a e => a (by injection e)
theorem pr_refs {K : PySem.W.Frag} {H : Hp} {kvs : List (Key × V)} {ms : MS} (h : Paired (MR1 K H) kvs ms) : ∀ p ∈ kvs, ∃ q, p.2 = .ref q := by
  induction h with
  | nil => intro p hp; cases hp
  | cons r _ ih =>
    intro p hp
    rcases List.mem_cons.mp hp with rfl | hp
    · obtain ⟨_, ⟨q, _, _, e, _⟩, _⟩ := r
      exact ⟨q, e⟩
    · exact ih p hp
theorem upd_back {H : Hp} {d D : Addr} {u v : HO} {w : HO} (h : H d = some u) (n : d ≠ D) : upd (upd (upd H d w) D v) d u = upd H D v := by
  funext b
  by_cases e : b = d
  · subst e; rw [upd_same, upd_ne n, h]
  · rw [upd_ne e]
    by_cases e2 : b = D
    · subst e2; rw [upd_same, upd_same]
    · rw [upd_ne e2, upd_ne e, upd_ne e2]
def spInit (K : PySem.W.Frag) (C : Addr) : Sp := fun vs H Q _ => ∃ p dx pd ms, vs = [.ref p, .ref pd] ∧ H p = some (.ins C dx []) ∧ MD K H pd ms ∧ KN ms ∧ ms.length ≤ 900 ∧ ∀ dm db H', SA K C H' p dm db ms [] → H dm = none → H db = none → Off [p] H H' → TK H H' → Q .non H'
section
variable {P : Program} {wd : World} {K : PySem.W.Frag} {mg : Str → Option Value} {base : Heap} {f C : Addr} {fd : FuncData}
theorem scInit : FnScope ["self", "marks", "host"] ["self", "marks"] (defScope (cS 0)) := ⟨rfl, rfl, rfl, by decide +kernel, rfl, by decide +kernel, by decide +kernel⟩
theorem ok_init (F : Fun K "__init__" "Sessions.__init__" (cS 0) f fd) (Tx : ST K mg C) : FnOk P wd K mg base CX0 1 f fd ["self", "marks"] (spInit K C) := by
  refine F.ok scInit (fun vs H Q E h => ?_) (fun cdv A outer s H vs Q E hr h => ?_)
  · obtain ⟨p, dx, pd, ms, rfl, _⟩ := h
    rfl
  · obtain ⟨p, dx, pd, ms, rfl, hp, M, kn, n1, q⟩ := h
    refine ⟨_, (pss_cons (ps_fld (pv 0) (pe_lock (pe_dc (own := [("host", 2)]) (g := gName 2) (tt := tYes) (tk := tVar 2) (tv := tDGet (tVar 1) (tVar 2)) rfl scInit.nd (pi_keys (pv 1)) (blkOk_by (own := [("host", 2)]) (N := ["self", "marks", "host"]) (sc := defScope (cS 0)) (by decide +kernel)) (fun _ _ _ _ _ => pg_name (i := 2) scInit.nd rfl (Or.inl rfl)) (fun _ _ _ _ _ => pts_nil) (fun _ _ _ _ _ => by exact (pv 2)) (fun _ _ _ _ _ => by exact (pe_dget (hu_of hr) (pv 1) (pv 2) (fun _ _ => rfl))))) rfl)
      (pss_one (ps_fld (pv 0) pe_dnewK rfl))), ?_⟩
    obtain ⟨kvs, hd, pr⟩ := M
    have npd : p ≠ pd := ne_of hp hd (by intro z; cases z)
    refine ⟨pd, .dK kvs, hd, trivial, fun od => ⟨_, rfl, pd, od, rfl, .inl ⟨kvs, upd_same, fun D hD => ?_⟩⟩⟩
    have nD : pd ≠ D := fun e => by rw [e, upd_same] at hD; cases hD
    have hDH : H D = none := by rw [upd_ne nD.symm] at hD; exact hD
    refine dc_keys (j := 2) (pr_nodup pr kn) hD upd_same (small1000 (by have := pr_len pr; omega)) (fun _ => rfl) (fun k v H' hm hfz => ⟨fun Q' q' => ⟨_, rfl, q'⟩, fun Q' q' => ⟨_, rfl, _, rfl, pd, v, rfl, ?_, q'⟩⟩) ?_
    · exact .inl ⟨kvs, k, .inr ⟨_, hfz⟩, rfl, (val_nodup (pr_nodup pr kn) (k, v) hm).symm⟩
    refine ⟨by rw [upd_ne nD, upd_same], ?_⟩
    rw [upd_back hd nD]
    have npD : p ≠ D := ne_of_none hp hDH
    have s1 : Same H (upd H D (.dK kvs)) := same_new hDH
    have hD1 : (upd H D (.dK kvs)) D = some (.dK kvs) := upd_same
    generalize upd H D (.dK kvs) = H1 at s1 hD1
    refine ⟨_, rfl, p, C, dx, _, rfl, s1 _ _ hp, Tx.cl, Tx.n1, (by show 0 < 1000; decide), ?_⟩
    generalize hH2 : upd H1 p (.ins C dx (putF "_marks" (.ref D) [])) = H2
    have hp2 : H2 p = some (.ins C dx (putF "_marks" (.ref D) [])) := by rw [← hH2, upd_same]
    have hD2 : H2 D = some (.dK kvs) := by rw [← hH2, upd_ne npD.symm]; exact hD1
    have o2 : Off [p] H1 H2 := by rw [← hH2]; exact Off.upd (by simp)
    refine fun e he => ?_
    have npe : p ≠ e := ne_of_none hp2 he
    have nDe : D ≠ e := ne_of_none hD2 he
    have heH : H e = none := by
      cases z : H e with
      | none => rfl
      | some ob => rw [o2 _ _ (s1 _ _ z) (by simpa using npe.symm)] at he; cases he
    refine ⟨_, rfl, p, C, dx, _, rfl, (by rw [upd_ne npe]; exact hp2), Tx.cl, Tx.n2, (by show 1 < 1000; decide), ?_⟩
    rw [sf_new]
    have tk : TK H (upd (upd H2 e (.dK [])) p (.ins C dx (sf D e))) := by
      refine ⟨fun b xs h => ?_, fun b o xs h => ?_⟩
      · have n1 : b ≠ p := ne_of h hp (by intro z; cases z)
        rw [upd_ne n1, upd_ne (ne_of_none (o2 _ _ (s1 _ _ h) (by simpa using n1)) he)]
        exact o2 _ _ (s1 _ _ h) (by simpa using n1)
      · have n1 : b ≠ p := ne_of h hp (by intro z; cases z)
        rw [upd_ne n1, upd_ne (ne_of_none (o2 _ _ (s1 _ _ h) (by simpa using n1)) he)]
        exact o2 _ _ (s1 _ _ h) (by simpa using n1)
    have oo : Off [p] H (upd (upd H2 e (.dK [])) p (.ins C dx (sf D e))) := fun b u h n => by
      have n1 : b ≠ p := by simpa using n
      have h2 := o2 _ _ (s1 _ _ h) n
      rw [upd_ne n1, upd_ne (ne_of_none h2 he)]; exact h2
    refine q D e _ ⟨⟨dx, upd_same⟩, ⟨kvs, ?_, pr_tk pr tk⟩, ?_, nDe, ?_, n1, Nat.zero_le _⟩ hDH heH oo tk
    · rw [upd_ne npD.symm, upd_ne nDe]; exact hD2
    · rw [upd_ne npe.symm, upd_same]
    · intro h z; cases z
end
end Sg

set_option Elab.async false
set_option linter.all false
set_option maxRecDepth 100000
set_option maxHeartbeats 8000000
namespace Sg
open PySem PySem.Spec PyProof.Rows L2
def spLaw (K : PySem.W.Frag) : Sp := fun vs H Q _ => ∃ (a : Addr) (ns : List Int), vs = [.ref a] ∧ SqL K H a (ns.map V.int) ∧ ns.length ≤ 63 ∧ ∀ H', Q (.bl true) H'
abbrev LN : List Str := ["script", "tape", "marks", "host", "told", "counter", "answer", "passed", "sessions", "kept", "opened", "turn"]
theorem kn_pt {ms : MS} {i : Int} {m : Mk4} (n : KN ms) (h : ∀ x ∈ ms, x.1 < i) : KN (pt ms i m) ∧ ∀ x ∈ pt ms i m, x.1 < i + 1 := by
  have na : ¬ (ms.any fun x => decide (x.1 = i)) = true := by
    intro z
    obtain ⟨x, hx, e⟩ := List.any_eq_true.mp z
    have := h x hx
    have := of_decide_eq_true e
    omega
  unfold pt
  rw [if_neg na]
  constructor
  · unfold KN
    rw [List.map_append, List.nodup_append]
    refine ⟨n, by simp, fun a ha b hb e => ?_⟩
    obtain ⟨x, hx, rfl⟩ := List.mem_map.mp ha
    have hb' : b = i := by simpa using hb
    have := h x hx
    omega
  · intro x hx
    rcases List.mem_append.mp hx with hx | hx
    · have := h x hx; omega
    · have : x = (i, m) := by simpa using hx
      rw [this]; show i < i + 1; omega
section
variable {P : Program} {wd : World} {K : PySem.W.Frag} {mg : Str → Option Value} {base : Heap} {f fN fI fS fD C : Addr} {fd fdN fdI fdS fdD : FuncData}
/-- one of two -/
theorem two {K : PySem.W.Frag} {H : Hp} {tp l2 : Addr} {x y : V} {σ : L2.St} {Q : VK} {j : Nat} (hj : σ.getD j none = some (.ref tp)) (t : TapeAt K H tp) (hl : H l2 = none)
    (q : ∀ z H', (z = x ∨ z = y) → Off [tp] H H' → TapeAt K H' tp → TK H H' → Q z H') (ht : ∀ (H1 : Hp) (Q1 : List V → Hp → Prop), Q1 [.ref tp, .int 2] H1 → tCons (tVar j) (tCons (tC (.int 2)) tNil) σ H1 Q1) :
    tOp (rIxL K) (tC (.ref l2)) (tCall (spNext K) [] E0 (tCons (tVar j) (tCons (tC (.int 2)) tNil))) σ (upd H l2 (.lst [x, y])) Q := by
  have s := same_new (o := .lst [x, y]) hl
  have hl' : (upd H l2 (.lst [x, y])) l2 = some (.lst [x, y]) := upd_same
  generalize upd H l2 (.lst [x, y]) = H1 at s hl'
  have t1 := t.same s
  have n : l2 ≠ tp := fun e => by
    obtain ⟨z, hz⟩ := t.lst
    rw [e, hz] at hl; cases hl
  show tCons (tVar j) (tCons (tC (.int 2)) tNil) σ H1 (fun vs H2 => spNext K (vs ++ []) H2 (fun y H3 => rIxL K (.ref l2) y H3 Q) E0)
  refine ht _ _ ?_
  show spNext K [.ref tp, .int 2] H1 _ _
  refine ⟨tp, 2, rfl, t1, by decide, by decide, fun r H2 r0 r1 o2 t2 => ?_⟩
  have h2 := o2 _ _ hl' (by simpa using n)
  have o : Off [tp] H H2 := fun b u e m => o2 _ _ (s _ _ e) m
  have tk : TK H H2 := (TK.of s).trans (t1.tk o2)
  by_cases e : r = 0
  · subst e
    exact ⟨l2, _, _, x, rfl, rfl, SqL.of h2, atI_nat (j := 0) rfl, q x H2 (.inl rfl) o t2 tk⟩
  · have e1 : r = 1 := by omega
    subst e1
    exact ⟨l2, _, _, y, rfl, rfl, SqL.of h2, atI_nat (j := 1) rfl, q y H2 (.inr rfl) o t2 tk⟩
theorem scLaw : FnScope ["script", "tape", "marks", "host", "told", "counter", "answer", "passed", "sessions", "kept", "opened", "turn"] ["script"] (defScope sLaw) := ⟨rfl, rfl, rfl, by decide +kernel, rfl, by decide +kernel, by decide +kernel⟩
theorem ok_law (F : Fun K "law" "law" sLaw f fd) (Tx : ST K mg C) (B : LB mg) (hdict : mg "dict" = none) (M : Mk K C fI) (GI : FnOk P wd K mg base CX0 1 fI fdI ["self", "marks"] (spInit K C)) (bI : Binds K fdI ["self", "marks"] [])
    (GN : Def P wd K mg base CX0 "_law_next" 1 ["tape", "many"] (spNext K) fN fdN) (GS : Def P wd K mg base CX0 "_law_shows" 3 ["sessions", "marks", "opened"] (spShows K C) fS fdS) (GZ : Def P wd K mg base CX0 "_law_deed" 5 ["sessions", "marks", "opened", "tape"] (spDeed K C) fD fdD) :
    FnOk P wd K mg base CX0 6 f fd ["script"] (spLaw K) := by
  refine F.ok scLaw (fun vs H Q E h => ?_) (fun cdv A outer s H vs Q E hr h => ?_)
  · obtain ⟨a, ns, rfl, _⟩ := h
    rfl
  · obtain ⟨a, ns, rfl, hS, hlen, kk⟩ := h
    have hr1 : Room 1 _ := hr.mono (by decide)
    have hr2 : Room 2 _ := hr.mono (by decide)
    have hr3 : Room 3 _ := hr.mono (by decide)
    refine ⟨_, (pss_cons (ps_set (i := 1) scLaw.nd rfl (Or.inl rfl) (pe_lst (pa_cons (pe_callTy call_list_of (by rfl) B.list (by decide +kernel) (pa_cons (pv 0) pa_nil)) (pa_cons pe_int (pa_cons pe_int (pa_cons pe_int pa_nil))))))
      (pss_cons (ps_set (i := 2) scLaw.nd rfl (Or.inl rfl) pe_dnewK)
      (pss_cons (ps_for PassesOwn.never rfl (pi_range1 (by rfl) B.range (pa_cons pe_int pa_nil)) (pg_name (i := 3) scLaw.nd rfl (Or.inl rfl))
      (pss_one (ps_if (pt_cmpR op_gt (pe_call GN.ok hr1 (by rfl) GN.mg GN.kp GN.bd .nil pass0 (pa_cons (pv 1) (pa_cons pe_int pa_nil))) pe_int (nomark _))
      (pss_cons (ps_set (i := 4) scLaw.nd rfl (Or.inl rfl) (pe_ix ix_list (pe_lst (pa_cons pe_non (pa_cons (pe_tup (pa_cons pe_int (pa_cons pe_int (pa_cons (pe_tup (pa_cons pe_str (pa_cons pe_non pa_nil))) pa_nil)))) pa_nil))) (pe_call GN.ok hr1 (by rfl) GN.mg GN.kp GN.bd .nil pass0 (pa_cons (pv 1) (pa_cons pe_int pa_nil))) (fun _ _ => rfl)))
      (pss_cons (ps_set (i := 5) scLaw.nd rfl (Or.inl rfl) (pe_call GN.ok hr1 (by rfl) GN.mg GN.kp GN.bd .nil pass0 (pa_cons (pv 1) (pa_cons pe_int pa_nil))))
      (pss_cons (ps_set (i := 6) scLaw.nd rfl (Or.inl rfl) pe_non)
      (Evl.pss_cut (ps_if (pt_cmpR op_gt (pv 5) pe_int (nomark _))
      (pss_one (ps_set (i := 6) scLaw.nd rfl (Or.inl rfl) (pe_tup (pa_cons pe_str (pa_cons (pe_ix ix_list (pe_lst (pa_cons pe_non (pa_cons pe_int pa_nil))) (pe_call GN.ok hr1 (by rfl) GN.mg GN.kp GN.bd .nil pass0 (pa_cons (pv 1) (pa_cons pe_int pa_nil))) (fun _ _ => rfl)) pa_nil))))) pss_nil)
      (pss_one (ps_dput (hu_of hr) (pv 2) (pv 3) (pe_tup (pa_cons (pe_op op_add pe_int (pe_ix ix_list (pe_lst (pa_cons (pe_call GN.ok hr1 (by rfl) GN.mg GN.kp GN.bd .nil pass0 (pa_cons (pv 1) (pa_cons pe_int pa_nil))) (pa_cons (pe_op op_pow pe_int pe_int) pa_nil))) (pe_call GN.ok hr1 (by rfl) GN.mg GN.kp GN.bd .nil pass0 (pa_cons (pv 1) (pa_cons pe_int pa_nil))) (fun _ _ => rfl))) (pa_cons (pv 5) (pa_cons (pv 6) (pa_cons (pv 4) pa_nil))))) rfl)))))) pss_nil)))
      (pss_cons (ps_set (i := 7) scLaw.nd rfl (Or.inl rfl) (pe_callTy call_dictD (by rfl) hdict (by decide +kernel) (pa_cons (pv 2) pa_nil)))
      (pss_cons (ps_set (i := 8) scLaw.nd rfl (Or.inl rfl) (pe_make M GI hr2 (by rfl) Tx.gC bI .nil pass0 (pa_cons (pv 7) pa_nil)))
      (pss_cons (ps_set (i := 9) scLaw.nd rfl (Or.inl rfl) (pe_callTy call_dictD (by rfl) hdict (by decide +kernel) (pa_cons (pv 2) pa_nil)))
      (pss_cons (ps_set (i := 10) scLaw.nd rfl (Or.inl rfl) pe_dnewK)
      (pss_cons (ps_if (pt_not (pt_val (pe_call GS.ok hr3 (by rfl) GS.mg GS.kp GS.bd .nil pass0 (pa_cons (pv 8) (pa_cons (pv 2) (pa_cons (pv 10) pa_nil))))))
      (pss_one (ps_ret pe_bl)) pss_nil)
      (pss_cons (ps_for PassesOwn.never rfl (pi_range1 (by rfl) B.range (pa_cons (pe_op op_add pe_int (pe_call GN.ok hr1 (by rfl) GN.mg GN.kp GN.bd .nil pass0 (pa_cons (pv 1) (pa_cons pe_int pa_nil)))) pa_nil)) (pg_name (i := 11) scLaw.nd rfl (Or.inl rfl))
      (pss_one (ps_if (PW.pt (pw_or (pt_not (pt_val (pe_call GZ.ok hr (by rfl) GZ.mg GZ.kp GZ.bd .nil pass0 (pa_cons (pv 8) (pa_cons (pv 2) (pa_cons (pv 10) (pa_cons (pv 1) pa_nil))))))) (pw_or1 (pt_not (pt_val (pe_call GS.ok hr3 (by rfl) GS.mg GS.kp GS.bd .nil pass0 (pa_cons (pv 8) (pa_cons (pv 2) (pa_cons (pv 10) pa_nil)))))))))
      (pss_one (ps_ret pe_bl)) pss_nil)))
      (pss_one (ps_ret (pe_cmpR (op_eq_dictS (Nat.lt_trans (Nat.lt_succ_self _) (hu_of hr))) (pv 7) (pv 9) (nomark _))))))))))))), ?_⟩
    -- tape = [list(script), 0, 0, 7]
    refine ⟨_, rfl, a, _, rfl, .inl hS, fun q hq => ⟨by show 4 ≤ sizeLine; decide, fun tp hp => ?_⟩⟩
    have t1 : TapeAt K (upd (upd H q (.lst (ns.map V.int))) tp (.lst [.ref q, .int 0, .int 0, .int 7])) tp := by
      have nqp : q ≠ tp := fun e => by rw [e] at hp; rw [upd_same] at hp; cases hp
      exact ⟨q, ns, 0, 0, 7, upd_same, SqL.of (by rw [upd_ne nqp, upd_same]), nqp, by decide, by decide, by decide⟩
    generalize hH1 : upd (upd H q (.lst (ns.map V.int))) tp _ = H1
    rw [hH1] at t1
    -- marks = {}
    refine fun d hd => ?_
    have s2 := same_new (o := .dK []) hd
    have hd2 : (upd H1 d (.dK [])) d = some (.dK []) := upd_same
    generalize upd H1 d (.dK []) = H2 at s2 hd2
    -- for host in range(4)
    refine ⟨4, rfl, by decide, by decide, ?_⟩
    refine for_range (lo := 0) (n := 4) (fun i σ H' => ∃ (x3 x4 x5 x6 x7 x8 x9 x10 x11 : Option V) (ms : MS), σ = [some (.ref a), some (.ref tp), some (.ref d), x3, x4, x5, x6, x7, x8, x9, x10, x11] ∧ TapeAt K H' tp ∧ MD K H' d ms ∧ KN ms ∧ (∀ x ∈ ms, x.1 < (i : Int)) ∧ ms.length ≤ i) ?_ ?_ ?_
    · exact ⟨_, _, _, _, _, _, _, _, _, [], rfl, t1.same s2, ⟨[], hd2, .nil⟩, List.nodup_nil, (fun x hx => by cases hx), Nat.le_refl _⟩
    · rintro i σ H0 hi ⟨x3, x4, x5, x6, x7, x8, x9, x10, x11, ms, rfl, t0, M0, kn, hk, hml⟩
      refine ⟨_, rfl, tp, 3, rfl, t0, by decide, by decide, fun r3 H3 _ _ o3 t3 => ⟨_, _, rfl, rfl, _, rfl, ?_⟩⟩
      obtain ⟨kv0, hd0⟩ := M0.ob
      have ndt : ∀ {Hx : Hp}, TapeAt K Hx tp → (∃ kv, Hx d = some (.dK kv)) → d ∉ [tp] := fun tx ⟨kv, hx⟩ => by
        obtain ⟨z, hz⟩ := tx.lst
        simpa using ne_of hx hz (by intro z; cases z)
      have M3 := M0.tk o3 (t0.tk o3) (ndt t0 ⟨_, hd0⟩)
      refine ite2 (fun _ => ?_) (fun _ => ⟨_, _, _, _, _, _, _, _, _, ms, rfl, t3, M3, kn, (fun x hx => by have := hk x hx; omega), by omega⟩)
      -- told
      refine ⟨by show 2 ≤ sizeLine; decide, fun ta hta => ⟨by show 3 ≤ sizeLine; decide, fun tb htb => ⟨by show 2 ≤ sizeLine; decide, fun l1 hl1 => ?_⟩⟩⟩
      have sa := same_new (o := .tup [.str "ok", .non]) hta
      have ha1 : (upd H3 ta (.tup [.str "ok", .non])) ta = some (.tup [.str "ok", .non]) := upd_same
      generalize upd H3 ta (.tup [.str "ok", .non]) = H4 at sa ha1 htb hl1
      have sb := same_new (o := .tup [.int 1, .int 2, .ref ta]) htb
      have hb1 : (upd H4 tb (.tup [.int 1, .int 2, .ref ta])) tb = some (.tup [.int 1, .int 2, .ref ta]) := upd_same
      generalize upd H4 tb (.tup [.int 1, .int 2, .ref ta]) = H5 at sb hb1 hl1
      have s35 := sa.trans sb
      have t5 := t3.same s35
      have gok : GD 1 (.tuple [.str "ok", .none]) := gd_tup2 (n := 0) ⟨rfl, by simp only [PyData.canLay0]; decide +kernel, by simp [PyData.depth]⟩ gd_none
      refine two (j := 1) rfl t5 hl1 (fun tv H6 htv o6 t6 k6 => ?_) (fun H1 Q1 q1 => ⟨_, rfl, q1⟩)
      have M6 := (M3.same s35).tk o6 k6 (ndt t5 (M3.same s35).ob)
      obtain ⟨td, dtd, gtd⟩ : ∃ td, Dp K H6 tv td ∧ GD 2 td := by
        rcases htv with rfl | rfl
        · exact ⟨_, .non, gd_none⟩
        · refine ⟨.tuple [.int 1, .int 2, .tuple [.str "ok", .none]], ?_, gd_tup3 gd_int gd_int gok⟩
          refine dp_tk k6 _ _ (gd_tup3 gd_int gd_int gok).t ?_
          exact .tup (SqT.of hb1) (.cons (.int _) (.cons (.int _) (.cons (.tup (SqT.of (sb _ _ ha1)) (.cons (.str _) (.cons .non .nil))) .nil)))
      -- counter = _law_next(tape, 3); answer = None
      refine ⟨_, rfl, tp, 3, rfl, t6, by decide, by decide, fun c H7 _ _ o7 t7 => ?_⟩
      have M7 := M6.tk o7 (t6.tk o7) (ndt t6 M6.ob)
      have dt7 := dp_tk (t6.tk o7) _ _ gtd.t dtd
      -- if counter > 0
      refine ⟨fun σ H' => ∃ av ad, σ = [some (.ref a), some (.ref tp), some (.ref d), some (.int (0 + (i : Int))), some tv, some (.int c), some av, x7, x8, x9, x10, x11] ∧ TapeAt K H' tp ∧ MD K H' d ms ∧ Dp K H' tv td ∧ Dp K H' av ad ∧ GD 1 ad, ⟨_, rfl, _, _, rfl, rfl, _, rfl, ite2 (fun _ => ?_) (fun _ => ⟨.non, .none, rfl, t7, M7, dt7, .non, gd_none⟩)⟩, ?_⟩
      · refine ⟨by show 2 ≤ sizeLine; decide, fun l2 hl2 => ?_⟩
        refine two (j := 1) rfl t7 hl2 (fun z H8 hz o8 t8 k8 => ⟨by show 2 ≤ sizeLine; decide, fun t ht => ?_⟩) (fun H1 Q1 q1 => ⟨_, rfl, q1⟩)
        have s9 := same_new (o := .tup [.str "ok", z]) ht
        have ht9 : (upd H8 t (.tup [.str "ok", z])) t = some (.tup [.str "ok", z]) := upd_same
        generalize upd H8 t (.tup [.str "ok", z]) = H9 at s9 ht9
        have M9 := (M7.tk o8 k8 (ndt t7 M7.ob)).same s9
        have dt9 := dp_tk (k8.trans (TK.of s9)) _ _ gtd.t dt7
        have gs : GD 0 (.str "ok") := ⟨rfl, by simp only [PyData.canLay0]; decide +kernel, by simp [PyData.depth]⟩
        rcases hz with rfl | rfl
        · exact ⟨.ref t, .tuple [.str "ok", .none], rfl, t8.same s9, M9, dt9, .tup (SqT.of ht9) (.cons (.str _) (.cons .non .nil)), gd_tup2 gs gd_none⟩
        · exact ⟨.ref t, .tuple [.str "ok", .int 40], rfl, t8.same s9, M9, dt9, .tup (SqT.of ht9) (.cons (.str _) (.cons (.int _) .nil)), gd_tup2 gs gd_int⟩
      · rintro σ H8 ⟨av, ad, rfl, t8, M8, dt8, da8, gad⟩
        -- marks[host] = (2 + [..][..], counter, answer, told)
        refine ⟨_, rfl, tp, 5, rfl, t8, by decide, by decide, fun r9 H9 _ _ o9 t9 => ⟨_, _, rfl, rfl, ⟨by decide, by decide, by decide⟩, by show 2 ≤ sizeLine; decide, fun l2 hl2 => ?_⟩⟩
        have M9 := M8.tk o9 (t8.tk o9) (ndt t8 M8.ob)
        have dt9 := dp_tk (t8.tk o9) _ _ gtd.t dt8
        have da9 := dp_tk (t8.tk o9) _ _ gad.t da8
        refine two (j := 1) rfl t9 hl2 (fun z HA hz oA tA kA => ?_) (fun H1 Q1 q1 => ⟨_, rfl, q1⟩)
        obtain ⟨zi, rfl⟩ : ∃ zi, z = .int zi := by rcases hz with rfl | rfl <;> exact ⟨_, rfl⟩
        have MA := M9.tk oA kA (ndt t9 M9.ob)
        have dtA := dp_tk kA _ _ gtd.t dt9
        have daA := dp_tk kA _ _ gad.t da9
        refine ⟨_, _, rfl, rfl, _, rfl, _, rfl, _, rfl, by show 4 ≤ sizeLine; decide, fun t ht => ?_⟩
        have sB := same_new (o := .tup [.int (2 + zi), .int c, av, tv]) ht
        have htB : (upd HA t (.tup [.int (2 + zi), .int c, av, tv])) t = some (.tup [.int (2 + zi), .int c, av, tv]) := upd_same
        generalize upd HA t (.tup [.int (2 + zi), .int c, av, tv]) = HB at sB htB
        have gm : GM ⟨2 + zi, c, ad, td⟩ := ⟨gad, gtd⟩
        have mv : MkV K HB (.ref t) ⟨2 + zi, c, ad, td⟩ := ⟨t, av, tv, rfl, SqT.of htB, dp_same sB _ _ daA, dp_same sB _ _ dtA⟩
        obtain ⟨kvB, hdB, prB⟩ := MA.same sB
        obtain ⟨MC, kC⟩ := MD.put (i := 0 + (i : Int)) hdB prB mv gm
        refine ⟨_, rfl, _, rfl, d, _, rfl, DPut.k (k := Sum.inl (0 + (i : Int))) hdB (small1000 (by have := pr_len prB; omega)), ?_⟩
        obtain ⟨kn2, hk2⟩ := kn_pt (m := ⟨2 + zi, c, ad, td⟩) kn (fun x hx => by have := hk x hx; omega : ∀ x ∈ ms, x.1 < 0 + (i : Int))
        refine ⟨_, _, _, _, _, _, _, _, _, _, rfl, tape_off (tA.same sB) (Off.upd (List.mem_singleton.mpr rfl) : Off [d] _ _) (by intro x hx; rw [List.mem_singleton.mp hx]; exact ⟨_, hdB⟩), MC, kn2, (fun x hx => by have := hk2 x hx; omega), ?_⟩
        have := pt_len ms (0 + (i : Int)) ⟨2 + zi, c, ad, td⟩
        omega
    · rintro σ H3 ⟨x3, x4, x5, x6, x7, x8, x9, x10, x11, ms, rfl, t3, M3, kn, hk, hml⟩
      obtain ⟨kvs, hd3, pr3⟩ := id M3
      -- passed = dict(marks)
      refine ⟨_, rfl, d, kvs, rfl, .inl hd3, fun pd hpd => ?_⟩
      have s4 := same_new (o := .dK kvs) hpd
      have hp4 : (upd H3 pd (.dK kvs)) pd = some (.dK kvs) := upd_same
      generalize upd H3 pd (.dK kvs) = H4 at s4 hp4
      have ndp : d ≠ pd := ne_of_none hd3 hpd
      have M4 := M3.same s4
      -- sessions = Sessions(passed)
      refine ⟨_, rfl, fun p dx hp hdx hne => ?_⟩
      have s5 : Same H4 (upd (upd H4 dx (.own p)) p (.ins C dx [])) := fun x o hx => by
        rw [upd_ne (ne_of_none hx hp), upd_ne (ne_of_none hx hdx)]; exact hx
      have hp5 : (upd (upd H4 dx (.own p)) p (.ins C dx [])) p = some (.ins C dx []) := upd_same
      generalize upd (upd H4 dx (.own p)) p (.ins C dx []) = H5 at s5 hp5
      have mp5 : MD K H5 pd ms := ⟨kvs, s5 _ _ hp4, pr_tk pr3 ((TK.of s4).trans (TK.of s5))⟩
      refine ⟨p, dx, pd, ms, rfl, hp5, mp5, kn, by omega, fun dm db H6 S6 hdm hdb o6 k6 => ⟨rfl, ?_⟩⟩
      have M5 := M4.same s5
      obtain ⟨kv5, hd5⟩ := M5.ob
      have hp5' := s5 _ _ hp4
      have npd : p ≠ d := ne_of hp5 hd5 (by intro z; cases z)
      have nppd : p ≠ pd := ne_of hp5 hp5' (by intro z; cases z)
      have M6 := M5.tk o6 k6 (by simpa using npd.symm)
      have hpd6 := o6 _ _ hp5' (by simpa using nppd.symm)
      have t5 := (t3.same s4).same s5
      have t6 : TapeAt K H6 tp := by
        obtain ⟨q, ns, i, rest, seed, g1, g2, g3⟩ := t5
        refine ⟨q, ns, i, rest, seed, o6 _ _ g1 (by simpa using ne_of g1 hp5 (by intro z; cases z)), ?_, g3⟩
        rcases g2 with (g | ⟨u, g⟩) | g
        · exact .inl (.inl (o6 _ _ g (by simpa using ne_of g hp5 (by intro z; cases z))))
        · exact .inl (.inr ⟨u, o6 _ _ g (by simpa using ne_of g hp5 (by intro z; cases z))⟩)
        · exact .inr g
      have n1 : d ≠ dm := fun e => by rw [e, hdm] at hd5; cases hd5
      have n2 : d ≠ db := fun e => by rw [e, hdb] at hd5; cases hd5
      have n3 : pd ≠ dm := fun e => by rw [e, hdm] at hp5'; cases hp5'
      have n4 : pd ≠ db := fun e => by rw [e, hdb] at hp5'; cases hp5'
      -- kept = dict(marks)
      have hd6 : H6 d = some (.dK kvs) := o6 _ _ (s5 _ _ (s4 _ _ hd3)) (by simpa using npd.symm)
      refine ⟨_, rfl, d, kvs, rfl, .inl hd6, fun kd hkd => ?_⟩
      have s7 := same_new (o := .dK kvs) hkd
      have hk7 : (upd H6 kd (.dK kvs)) kd = some (.dK kvs) := upd_same
      have n5 : kd ≠ d := (ne_of_none hd6 hkd).symm
      obtain ⟨kvm, hdm6⟩ := S6.md.ob
      have n6 : kd ≠ dm := (ne_of_none hdm6 hkd).symm
      have n7 : kd ≠ db := (ne_of_none S6.bd hkd).symm
      generalize upd H6 kd (.dK kvs) = H7 at s7 hk7
      -- opened = {}
      refine fun o ho => ?_
      have s8 := same_new (o := .dK []) ho
      have ho8 : (upd H7 o (.dK [])) o = some (.dK []) := upd_same
      have n8 : o ≠ kd := (ne_of_none hk7 ho).symm
      have n9 : o ≠ pd := (ne_of_none (s7 _ _ hpd6) ho).symm
      have n10 : o ≠ dm := (ne_of_none (s7 _ _ hdm6) ho).symm
      have n11 : o ≠ db := (ne_of_none (s7 _ _ S6.bd) ho).symm
      have n12 : d ≠ o := ne_of_none (s7 _ _ hd6) ho
      generalize upd H7 o (.dK []) = H8 at s8 ho8
      have s68 := s7.trans s8
      have J8 : JD K C H8 p dm db d o tp ms [] := ⟨S6.same s68, M6.same s68, ho8, t6.same s68, n1, n2, n10, n11, n12⟩
      -- if not _law_shows(..): return False
      refine ⟨_, rfl, _, rfl, _, rfl, p, d, o, dm, db, ms, [], rfl, J8.sa, J8.md, J8.ho, fun H9 s9 => ⟨true, rfl, iteF ?_⟩⟩
      have J9 := J8.same s9
      -- for turn in range(1 + _law_next(tape, 40))
      refine ⟨_, rfl, tp, 40, rfl, J9.ta, by decide, by decide, fun r HA r0 r1 oA tA => ⟨_, _, rfl, rfl, nil_ ⟨_, rfl, by omega, by omega, ?_⟩⟩⟩
      have JA := J9.tape oA tA
      have hpdA : HA pd = some (.dK kvs) := oA _ _ (s9 _ _ (s68 _ _ hpd6)) (by
        obtain ⟨z, hz⟩ := J9.ta.lst
        simpa using ne_of (s9 _ _ (s68 _ _ hpd6)) hz (by intro z; cases z))
      have hkdA : HA kd = some (.dK kvs) := oA _ _ (s9 _ _ (s8 _ _ hk7)) (by
        obtain ⟨z, hz⟩ := J9.ta.lst
        simpa using ne_of (s9 _ _ (s8 _ _ hk7)) hz (by intro z; cases z))
      refine for_range (lo := 0) (n := (1 + r).toNat) (fun i σ H' => ∃ (x11 : Option V) (ms : MS) (bs : BS), σ = [some (.ref a), some (.ref tp), some (.ref d), x3, x4, x5, x6, some (.ref pd), some (.ref p), some (.ref kd), some (.ref o), x11] ∧ JD K C H' p dm db d o tp ms bs ∧ ms.length ≤ 4 + i ∧ bs.length ≤ i ∧ H' pd = some (.dK kvs) ∧ H' kd = some (.dK kvs)) ?_ ?_ ?_
      · exact ⟨_, ms, [], rfl, JA, by omega, Nat.le_refl _, hpdA, hkdA⟩
      · rintro i σ HB hi ⟨x11, ms, bs, rfl, JB, l1, l2, hpB, hkB⟩
        refine ⟨_, rfl, _, rfl, _, rfl, _, rfl, p, dm, db, d, o, tp, ms, bs, rfl, JB, by omega, by omega, fun HC ms' bs' JC l3 l4 oC _ => ⟨true, rfl, iteF ?_⟩⟩
        refine ⟨_, rfl, _, rfl, _, rfl, p, d, o, dm, db, ms', bs', rfl, JC.sa, JC.md, JC.ho, fun HD sD => ⟨true, rfl, iteF ?_⟩⟩
        have ntp : ∀ {x : Addr} {kv}, HB x = some (.dK kv) → x ≠ tp := fun hx => by
          obtain ⟨z, hz⟩ := JB.ta.lst
          exact ne_of hx hz (by intro z; cases z)
        have n13 := ntp hpB
        have n14 := ntp hkB
        exact ⟨_, ms', bs', rfl, JC.same sD, by omega, by omega, sD _ _ (oC _ _ hpB (by simp [n3, n4, ndp.symm, n9.symm, n13])), sD _ _ (oC _ _ hkB (by simp [n5, n6, n7, n8.symm, n14]))⟩
      · rintro σ HB ⟨x11, ms', bs, rfl, JB, l1, l2, hpB, hkB⟩
        exact ⟨_, rfl, _, rfl, pd, kd, kvs, rfl, rfl, hpB, hkB, pr_nodup pr3 kn, pr_refs pr3, kk _⟩
end
end Sg

set_option Elab.async false
set_option linter.all false
set_option maxRecDepth 100000
set_option maxHeartbeats 8000000
namespace Sg
open PySem PySem.Spec PyProof.Rows L2
theorem all_mk {l : PySem.W.OpenLaw} {w : World} {K : PySem.W.Frag} {h : Heap} {mg : Str → Option Value} {fa CN CS C fMI fMM fMO fMC fMN fMB fMK fME fMP fN fTo fCo fKi fBe fKp fSh fKt fDe fL : Addr} (X : K.In h) (G : h.Ns mainGlobals mg) (hfa : mg "law" = some (.ref fa))
    {odMI anMI odMM anMM odMO anMO odMC anMC odMN anMN odMB anMB odMK anMK odME anME odMP anMP odN anN odTo anTo odCo anCo odKi anKi odBe anBe odKp anKp odSh anSh odKt anKt odDe anDe odL anL : Option Addr} {slMI slMM slMO slMC slMN slMB slMK slME slMP slN slTo slCo slKi slBe slKp slSh slKt slDe slL : Array (Option Value)} {ocMI kVMI dcMI pmMI cdMI ctMI ocMM kVMM dcMM pmMM cdMM ctMM ocMO kVMO dcMO pmMO cdMO ctMO ocMC kVMC dcMC pmMC cdMC ctMC ocMN kVMN dcMN pmMN cdMN ctMN ocMB kVMB dcMB pmMB cdMB ctMB ocMK kVMK dcMK pmMK cdMK ctMK ocME kVME dcME pmME cdME ctME ocMP kVMP dcMP pmMP cdMP ctMP ocN kVN dcN pmN cdN ctN ocTo kVTo dcTo pmTo cdTo ctTo ocCo kVCo dcCo pmCo cdCo ctCo ocKi kVKi dcKi pmKi cdKi ctKi ocBe kVBe dcBe pmBe cdBe ctBe ocKp kVKp dcKp pmKp cdKp ctKp ocSh kVSh dcSh pmSh cdSh ctSh ocKt kVKt dcKt pmKt cdKt ctKt ocDe kVDe dcDe pmDe cdDe ctDe ocL kVL dcL pmL cdL ctL : Value} 
    (aN_ : PySem.W.nsIn K mainGlobals "NotValid" = some (some (.ref CN)))
    (aS_ : PySem.W.nsIn K mainGlobals "SpindleError" = some (some (.ref CS)))
    (xNe : PySem.W.excIn K CN [.type "ValueError", .type "Exception", .type "BaseException", .type "object"] "ValueError.__new__" = true)
    (kNe : PySem.W.keepIn K (.ref CN) = true)
    (bNe : PySem.W.subIn K (.ref CN) (.type "BaseException") = some true)
    (tNe : PySem.W.typeIn K (.ref CN) = some (.type "type"))
    (sNe : PySem.W.subIn K (.ref CN) (.ref CS) = some true)
    (iSe : PySem.W.isClsIn K CS = true)
    (bSe : PySem.W.subIn K (.ref CS) (.type "BaseException") = some true)
    (tSe : PySem.W.typeIn K (.ref CS) = some (.type "type"))
    (aC : PySem.W.nsIn K mainGlobals "Sessions" = some (some (.ref C)))
    (pg : PySem.W.plainGet K C Str.empty = true)
    (hd : PySem.W.hasDictIn K C = true)
    (po : PySem.W.plainOver K C = true)
    (sa : PySem.W.findIn K (.ref C) "__setattr__" = some (some (.builtin "object.__setattr__")))
    (mk : PySem.W.makesIn K C = true)
    (kc : PySem.W.keepIn K (.ref C) = true)
    (n1 : PySem.W.findIn K (.ref C) "_marks" = some none)
    (n2 : PySem.W.findIn K (.ref C) "_begun" = some none)
    (e1N : PySem.W.findIn K (.ref CN) "__getattribute__" = some (some (.builtin "BaseException.__getattribute__")))
    (e2N : PySem.W.findIn K (.ref CN) "__getattr__" = some none)
    (e3N : PySem.W.hasDictIn K CN = true)
    (e4N : PySem.W.findIn K (.ref CN) "__class__" = some (some (.builtin "object.__class__")))
    (e7N : PySem.W.mroIn K CN (.type "object") = some true)
    (e5 : PySem.W.specialIn K (.builtin "object.__class__") "__get__" = some (some (.builtin "getset_descriptor.__get__")))
    (e6 : PySem.W.takesIn K (.builtin "object.__class__") = some true)
    (aMI : PySem.W.findIn K (.ref C) "__init__" = some (some (.ref fMI)))
    (iMI : PySem.W.isFn K (.ref fMI) = true)
    (lMI : K.lookup fMI = some ⟨ocMI, odMI, .func (PySem.W.fnOf "__init__" "Sessions.__init__" (defArgs (cS 0)) (defBody (cS 0)) (defScope (cS 0)) .none kVMI dcMI pmMI anMI cdMI ctMI), slMI⟩)
    (cMI : PySem.W.codeIn K cdMI "Sessions.__init__" = true)
    (kMI : PySem.W.keepIn K (.ref fMI) = true)
    (aMM : PySem.W.findIn K (.ref C) "mark_of" = some (some (.ref fMM)))
    (iMM : PySem.W.isFn K (.ref fMM) = true)
    (lMM : K.lookup fMM = some ⟨ocMM, odMM, .func (PySem.W.fnOf "mark_of" "Sessions.mark_of" (defArgs (cS 1)) (defBody (cS 1)) (defScope (cS 1)) .none kVMM dcMM pmMM anMM cdMM ctMM), slMM⟩)
    (cMM : PySem.W.codeIn K cdMM "Sessions.mark_of" = true)
    (kMM : PySem.W.keepIn K (.ref fMM) = true)
    (aMO : PySem.W.findIn K (.ref C) "is_open" = some (some (.ref fMO)))
    (iMO : PySem.W.isFn K (.ref fMO) = true)
    (lMO : K.lookup fMO = some ⟨ocMO, odMO, .func (PySem.W.fnOf "is_open" "Sessions.is_open" (defArgs (cS 2)) (defBody (cS 2)) (defScope (cS 2)) .none kVMO dcMO pmMO anMO cdMO ctMO), slMO⟩)
    (cMO : PySem.W.codeIn K cdMO "Sessions.is_open" = true)
    (kMO : PySem.W.keepIn K (.ref fMO) = true)
    (aMC : PySem.W.findIn K (.ref C) "connecting" = some (some (.ref fMC)))
    (iMC : PySem.W.isFn K (.ref fMC) = true)
    (lMC : K.lookup fMC = some ⟨ocMC, odMC, .func (PySem.W.fnOf "connecting" "Sessions.connecting" (defArgs (cS 3)) (defBody (cS 3)) (defScope (cS 3)) .none kVMC dcMC pmMC anMC cdMC ctMC), slMC⟩)
    (cMC : PySem.W.codeIn K cdMC "Sessions.connecting" = true)
    (kMC : PySem.W.keepIn K (.ref fMC) = true)
    (aMN : PySem.W.findIn K (.ref C) "next_told" = some (some (.ref fMN)))
    (iMN : PySem.W.isFn K (.ref fMN) = true)
    (lMN : K.lookup fMN = some ⟨ocMN, odMN, .func (PySem.W.fnOf "next_told" "Sessions.next_told" (defArgs (cS 4)) (defBody (cS 4)) (defScope (cS 4)) .none kVMN dcMN pmMN anMN cdMN ctMN), slMN⟩)
    (cMN : PySem.W.codeIn K cdMN "Sessions.next_told" = true)
    (kMN : PySem.W.keepIn K (.ref fMN) = true)
    (aMB : PySem.W.findIn K (.ref C) "begin" = some (some (.ref fMB)))
    (iMB : PySem.W.isFn K (.ref fMB) = true)
    (lMB : K.lookup fMB = some ⟨ocMB, odMB, .func (PySem.W.fnOf "begin" "Sessions.begin" (defArgs (cS 5)) (defBody (cS 5)) (defScope (cS 5)) .none kVMB dcMB pmMB anMB cdMB ctMB), slMB⟩)
    (cMB : PySem.W.codeIn K cdMB "Sessions.begin" = true)
    (kMB : PySem.W.keepIn K (.ref fMB) = true)
    (aMK : PySem.W.findIn K (.ref C) "kind_of" = some (some (.ref fMK)))
    (iMK : PySem.W.isFn K (.ref fMK) = true)
    (lMK : K.lookup fMK = some ⟨ocMK, odMK, .func (PySem.W.fnOf "kind_of" "Sessions.kind_of" (defArgs (cS 6)) (defBody (cS 6)) (defScope (cS 6)) .none kVMK dcMK pmMK anMK cdMK ctMK), slMK⟩)
    (cMK : PySem.W.codeIn K cdMK "Sessions.kind_of" = true)
    (kMK : PySem.W.keepIn K (.ref fMK) = true)
    (aME : PySem.W.findIn K (.ref C) "kept_answer" = some (some (.ref fME)))
    (iME : PySem.W.isFn K (.ref fME) = true)
    (lME : K.lookup fME = some ⟨ocME, odME, .func (PySem.W.fnOf "kept_answer" "Sessions.kept_answer" (defArgs (cS 7)) (defBody (cS 7)) (defScope (cS 7)) .none kVME dcME pmME anME cdME ctME), slME⟩)
    (cME : PySem.W.codeIn K cdME "Sessions.kept_answer" = true)
    (kME : PySem.W.keepIn K (.ref fME) = true)
    (aMP : PySem.W.findIn K (.ref C) "keep" = some (some (.ref fMP)))
    (iMP : PySem.W.isFn K (.ref fMP) = true)
    (lMP : K.lookup fMP = some ⟨ocMP, odMP, .func (PySem.W.fnOf "keep" "Sessions.keep" (defArgs (cS 8)) (defBody (cS 8)) (defScope (cS 8)) .none kVMP dcMP pmMP anMP cdMP ctMP), slMP⟩)
    (cMP : PySem.W.codeIn K cdMP "Sessions.keep" = true)
    (kMP : PySem.W.keepIn K (.ref fMP) = true)
    (aN : PySem.W.nsIn K mainGlobals "_law_next" = some (some (.ref fN)))
    (lN : K.lookup fN = some ⟨ocN, odN, .func (PySem.W.fnOf "_law_next" "_law_next" (defArgs sNext) (defBody sNext) (defScope sNext) .none kVN dcN pmN anN cdN ctN), slN⟩)
    (cN : PySem.W.codeIn K cdN "_law_next" = true)
    (kN : PySem.W.keepIn K (.ref fN) = true)
    (aTo : PySem.W.nsIn K mainGlobals "_law_told" = some (some (.ref fTo)))
    (lTo : K.lookup fTo = some ⟨ocTo, odTo, .func (PySem.W.fnOf "_law_told" "_law_told" (defArgs sTold) (defBody sTold) (defScope sTold) .none kVTo dcTo pmTo anTo cdTo ctTo), slTo⟩)
    (cTo : PySem.W.codeIn K cdTo "_law_told" = true)
    (kTo : PySem.W.keepIn K (.ref fTo) = true)
    (aCo : PySem.W.nsIn K mainGlobals "_law_connecting" = some (some (.ref fCo)))
    (lCo : K.lookup fCo = some ⟨ocCo, odCo, .func (PySem.W.fnOf "_law_connecting" "_law_connecting" (defArgs sConn) (defBody sConn) (defScope sConn) .none kVCo dcCo pmCo anCo cdCo ctCo), slCo⟩)
    (cCo : PySem.W.codeIn K cdCo "_law_connecting" = true)
    (kCo : PySem.W.keepIn K (.ref fCo) = true)
    (aKi : PySem.W.nsIn K mainGlobals "_law_kind" = some (some (.ref fKi)))
    (lKi : K.lookup fKi = some ⟨ocKi, odKi, .func (PySem.W.fnOf "_law_kind" "_law_kind" (defArgs sKind) (defBody sKind) (defScope sKind) .none kVKi dcKi pmKi anKi cdKi ctKi), slKi⟩)
    (cKi : PySem.W.codeIn K cdKi "_law_kind" = true)
    (kKi : PySem.W.keepIn K (.ref fKi) = true)
    (aBe : PySem.W.nsIn K mainGlobals "_law_begin" = some (some (.ref fBe)))
    (lBe : K.lookup fBe = some ⟨ocBe, odBe, .func (PySem.W.fnOf "_law_begin" "_law_begin" (defArgs sBegin) (defBody sBegin) (defScope sBegin) .none kVBe dcBe pmBe anBe cdBe ctBe), slBe⟩)
    (cBe : PySem.W.codeIn K cdBe "_law_begin" = true)
    (kBe : PySem.W.keepIn K (.ref fBe) = true)
    (aKp : PySem.W.nsIn K mainGlobals "_law_keep" = some (some (.ref fKp)))
    (lKp : K.lookup fKp = some ⟨ocKp, odKp, .func (PySem.W.fnOf "_law_keep" "_law_keep" (defArgs sKeep) (defBody sKeep) (defScope sKeep) .none kVKp dcKp pmKp anKp cdKp ctKp), slKp⟩)
    (cKp : PySem.W.codeIn K cdKp "_law_keep" = true)
    (kKp : PySem.W.keepIn K (.ref fKp) = true)
    (aSh : PySem.W.nsIn K mainGlobals "_law_shows" = some (some (.ref fSh)))
    (lSh : K.lookup fSh = some ⟨ocSh, odSh, .func (PySem.W.fnOf "_law_shows" "_law_shows" (defArgs sShows) (defBody sShows) (defScope sShows) .none kVSh dcSh pmSh anSh cdSh ctSh), slSh⟩)
    (cSh : PySem.W.codeIn K cdSh "_law_shows" = true)
    (kSh : PySem.W.keepIn K (.ref fSh) = true)
    (aKt : PySem.W.nsIn K mainGlobals "_law_kept" = some (some (.ref fKt)))
    (lKt : K.lookup fKt = some ⟨ocKt, odKt, .func (PySem.W.fnOf "_law_kept" "_law_kept" (defArgs sKept) (defBody sKept) (defScope sKept) .none kVKt dcKt pmKt anKt cdKt ctKt), slKt⟩)
    (cKt : PySem.W.codeIn K cdKt "_law_kept" = true)
    (kKt : PySem.W.keepIn K (.ref fKt) = true)
    (aDe : PySem.W.nsIn K mainGlobals "_law_deed" = some (some (.ref fDe)))
    (lDe : K.lookup fDe = some ⟨ocDe, odDe, .func (PySem.W.fnOf "_law_deed" "_law_deed" (defArgs sDeed) (defBody sDeed) (defScope sDeed) .none kVDe dcDe pmDe anDe cdDe ctDe), slDe⟩)
    (cDe : PySem.W.codeIn K cdDe "_law_deed" = true)
    (kDe : PySem.W.keepIn K (.ref fDe) = true)
    (aL : PySem.W.nsIn K mainGlobals "law" = some (some (.ref fL)))
    (lL : K.lookup fL = some ⟨ocL, odL, .func (PySem.W.fnOf "law" "law" (defArgs sLaw) (defBody sLaw) (defScope sLaw) .none kVL dcL pmL anL cdL ctL), slL⟩)
    (cL : PySem.W.codeIn K cdL "law" = true)
    (kL : PySem.W.keepIn K (.ref fL) = true)
    (z_len : PySem.W.nsIn K mainGlobals "len" = some none)
    (z_abs : PySem.W.nsIn K mainGlobals "abs" = some none)
    (z_int : PySem.W.nsIn K mainGlobals "int" = some none)
    (z_list : PySem.W.nsIn K mainGlobals "list" = some none)
    (z_tuple : PySem.W.nsIn K mainGlobals "tuple" = some none)
    (z_sorted : PySem.W.nsIn K mainGlobals "sorted" = some none)
    (z_range : PySem.W.nsIn K mainGlobals "range" = some none)
    (z_isinstance : PySem.W.nsIn K mainGlobals "isinstance" = some none)
    (z_bool : PySem.W.nsIn K mainGlobals "bool" = some none)
    (z_max : PySem.W.nsIn K mainGlobals "max" = some none)
    (z_dict : PySem.W.nsIn K mainGlobals "dict" = some none)
    : ∃ fd : FuncData, (∀ (s : Shared) (v : Value), BindsTo s fd ⟨[v], []⟩ [("script", v)]) ∧ ∀ base : Heap, K.In base → base.Ns mainGlobals mg → FnOk l.prog w K mg base CX0 6 fa fd ["script"] (spLaw K) := by
  have e := hfa.symm.trans (PySem.W.mg_of X G aL)
  cases e
  have NVx : NV K mg CN CS := ⟨PySem.W.mg_of X G aN_, xNe, kNe, bNe, tNe, PySem.W.mg_of X G aS_, exm_sub bSe iSe tSe sNe⟩
  have B : LB mg := ⟨PySem.W.mg_none_of X G z_len, PySem.W.mg_none_of X G z_abs, PySem.W.mg_none_of X G z_int, PySem.W.mg_none_of X G z_list, PySem.W.mg_none_of X G z_tuple, PySem.W.mg_none_of X G z_sorted, PySem.W.mg_none_of X G z_range⟩
  have Tx : ST K mg C := ⟨⟨pg, hd, po, sa⟩, n1, n2, PySem.W.mg_of X G aC⟩
  have XC : ExcC K CN := ⟨e1N, e2N, bNe, e3N, e4N, e5, e6, e7N⟩
  have FMI := fun_mk (st := (cS 0)) lMI cMI kMI
  have FMM := fun_mk (st := (cS 1)) lMM cMM kMM
  have FMO := fun_mk (st := (cS 2)) lMO cMO kMO
  have FMC := fun_mk (st := (cS 3)) lMC cMC kMC
  have FMN := fun_mk (st := (cS 4)) lMN cMN kMN
  have FMB := fun_mk (st := (cS 5)) lMB cMB kMB
  have FMK := fun_mk (st := (cS 6)) lMK cMK kMK
  have FME := fun_mk (st := (cS 7)) lME cME kME
  have FMP := fun_mk (st := (cS 8)) lMP cMP kMP
  have FN := fun_mk (st := sNext) lN cN kN
  have FTo := fun_mk (st := sTold) lTo cTo kTo
  have FCo := fun_mk (st := sConn) lCo cCo kCo
  have FKi := fun_mk (st := sKind) lKi cKi kKi
  have FBe := fun_mk (st := sBegin) lBe cBe kBe
  have FKp := fun_mk (st := sKeep) lKp cKp kKp
  have FSh := fun_mk (st := sShows) lSh cSh kSh
  have FKt := fun_mk (st := sKept) lKt cKt kKt
  have FDe := fun_mk (st := sDeed) lDe cDe kDe
  have FL := fun_mk (st := sLaw) lL cL kL
  have bMI := FMI.binds (ps := ["self", "marks"]) fun _ _ _ _ _ _ us hl => match us, hl with | [_, _], _ => rfl
  have bMM := FMM.binds (ps := ["self", "host"]) fun _ _ _ _ _ _ us hl => match us, hl with | [_, _], _ => rfl
  have bMO := FMO.binds (ps := ["self", "host"]) fun _ _ _ _ _ _ us hl => match us, hl with | [_, _], _ => rfl
  have bMC := FMC.binds (ps := ["self", "host", "number"]) fun _ _ _ _ _ _ us hl => match us, hl with | [_, _, _], _ => rfl
  have bMN := FMN.binds (ps := ["self", "host"]) fun _ _ _ _ _ _ us hl => match us, hl with | [_, _], _ => rfl
  have bMB := FMB.binds (ps := ["self", "host", "number"]) fun _ _ _ _ _ _ us hl => match us, hl with | [_, _, _], _ => rfl
  have bMK := FMK.binds (ps := ["self", "host", "session", "counter"]) fun _ _ _ _ _ _ us hl => match us, hl with | [_, _, _, _], _ => rfl
  have bME := FME.binds (ps := ["self", "host", "session", "counter"]) fun _ _ _ _ _ _ us hl => match us, hl with | [_, _, _, _], _ => rfl
  have bMP := FMP.binds (ps := ["self", "host", "answer"]) fun _ _ _ _ _ _ us hl => match us, hl with | [_, _, _], _ => rfl
  have bN := FN.binds (ps := ["tape", "many"]) fun _ _ _ _ _ _ us hl => match us, hl with | [_, _], _ => rfl
  have bTo := FTo.binds (ps := ["marks", "host"]) fun _ _ _ _ _ _ us hl => match us, hl with | [_, _], _ => rfl
  have bCo := FCo.binds (ps := ["marks", "host", "number"]) fun _ _ _ _ _ _ us hl => match us, hl with | [_, _, _], _ => rfl
  have bKi := FKi.binds (ps := ["marks", "opened", "host", "session", "counter"]) fun _ _ _ _ _ _ us hl => match us, hl with | [_, _, _, _, _], _ => rfl
  have bBe := FBe.binds (ps := ["sessions", "host", "number"]) fun _ _ _ _ _ _ us hl => match us, hl with | [_, _, _], _ => rfl
  have bKp := FKp.binds (ps := ["sessions", "host", "answer"]) fun _ _ _ _ _ _ us hl => match us, hl with | [_, _, _], _ => rfl
  have bSh := FSh.binds (ps := ["sessions", "marks", "opened"]) fun _ _ _ _ _ _ us hl => match us, hl with | [_, _, _], _ => rfl
  have bKt := FKt.binds (ps := ["marks", "opened", "host", "session", "counter"]) fun _ _ _ _ _ _ us hl => match us, hl with | [_, _, _, _, _], _ => rfl
  have bDe := FDe.binds (ps := ["sessions", "marks", "opened", "tape"]) fun _ _ _ _ _ _ us hl => match us, hl with | [_, _, _, _], _ => rfl
  refine ⟨PySem.W.fnOf "law" "law" (defArgs sLaw) (defBody sLaw) (defScope sLaw) .none kVL dcL pmL anL cdL ctL, fun s v => .of_eq rfl, fun base _ _ => ?_⟩
  have mMI : Meth K C "__init__" fMI := ⟨aMI, iMI, kMI⟩
  have mMM : Meth K C "mark_of" fMM := ⟨aMM, iMM, kMM⟩
  have mMO : Meth K C "is_open" fMO := ⟨aMO, iMO, kMO⟩
  have mMC : Meth K C "connecting" fMC := ⟨aMC, iMC, kMC⟩
  have mMN : Meth K C "next_told" fMN := ⟨aMN, iMN, kMN⟩
  have mMB : Meth K C "begin" fMB := ⟨aMB, iMB, kMB⟩
  have mMK : Meth K C "kind_of" fMK := ⟨aMK, iMK, kMK⟩
  have mME : Meth K C "kept_answer" fME := ⟨aME, iME, kME⟩
  have mMP : Meth K C "keep" fMP := ⟨aMP, iMP, kMP⟩
  have dMM := Mth.mk (ok_mark (P := l.prog) (wd := w) (base := base) FMM Tx) bMM mMM
  have dMO := Mth.mk (ok_open (P := l.prog) (wd := w) (base := base) FMO Tx) bMO mMO
  have dMC := Mth.mk (ok_connM FMC Tx dMM) bMC mMC
  have dMN := Mth.mk (ok_nextM FMN Tx dMM) bMN mMN
  have dMK := Mth.mk (ok_kindM FMK Tx dMO) bMK mMK
  have dME := Mth.mk (ok_keptM FME Tx dMO) bME mME
  have dMB := Mth.mk (ok_beginM FMB Tx NVx dMC dMN) bMB mMB
  have dMP := Mth.mk (ok_keepM FMP Tx NVx dMO) bMP mMP
  have dN := Def.mk (ok_next (P := l.prog) (wrl := w) (base := base) FN B) bN kN (PySem.W.mg_of X G aN)
  have dTo := Def.mk (ok_told (P := l.prog) (wd := w) (mg := mg) (base := base) FTo) bTo kTo (PySem.W.mg_of X G aTo)
  have dCo := Def.mk (ok_conn (P := l.prog) (wd := w) (mg := mg) (base := base) FCo) bCo kCo (PySem.W.mg_of X G aCo)
  have dKi := Def.mk (ok_kind (P := l.prog) (wd := w) (mg := mg) (base := base) FKi) bKi kKi (PySem.W.mg_of X G aKi)
  have dKt := Def.mk (ok_kept (P := l.prog) (wd := w) (mg := mg) (base := base) FKt) bKt kKt (PySem.W.mg_of X G aKt)
  have dBe := Def.mk (ok_begin FBe Tx NVx XC (PySem.W.mg_none_of X G z_isinstance) dMB) bBe kBe (PySem.W.mg_of X G aBe)
  have dKp := Def.mk (ok_keep FKp Tx NVx XC (PySem.W.mg_none_of X G z_isinstance) dMP) bKp kKp (PySem.W.mg_of X G aKp)
  have dSh := Def.mk (ok_shows FSh Tx B (PySem.W.mg_none_of X G z_isinstance) (PySem.W.mg_none_of X G z_bool) dMO dMM dMN dTo) bSh kSh (PySem.W.mg_of X G aSh)
  have dDe := Def.mk (ok_deed FDe Tx (PySem.W.mg_none_of X G z_max) dN dTo dCo dKi dKt dBe dKp dMC dMK dME) bDe kDe (PySem.W.mg_of X G aDe)
  exact ok_law FL Tx B (PySem.W.mg_none_of X G z_dict) ⟨mk, aMI, iMI, kc⟩ (ok_init (P := l.prog) (wd := w) (base := base) FMI Tx) bMI dN dSh dDe
/-- the law row's walk: at most 63 items -/
theorem walk_law {l : PySem.W.OpenLaw} {q : Program} {loose : List Str} {XP : (Str → Option Value) → Heap → Prop} {YP : World → Heap → Prop} {d : DefRec} {K : Params → PySem.W.Frag} (hn : l.most = some 63) (hdf : d.params.defaults = [])
    (hY : ∀ (w : World) (h : Heap), YP w h → (K w.params).In h)
    (F : ∀ (w : World) (mg : Str → Option Value) (fa : Addr) (h : Heap), (K w.params).In h → h.Ns mainGlobals mg → mg d.name = some (.ref fa) →
      ∃ fd : FuncData, (∀ (s : Shared) (u : Value), BindsTo s fd ⟨[u], []⟩ [("script", u)]) ∧ ∀ base : Heap, (K w.params).In base → base.Ns mainGlobals mg → FnOk l.prog w (K w.params) mg base CX0 6 fa fd ["script"] (spLaw (K w.params))) :
    PySem.W.WalkO q loose XP YP l.row.toRowW d [] (fun f vs => PySem.call f vs) :=
  L2.walk_of (n := 63) (k := 6) (x := "script") (CX := fun _ => CX0) (sp := fun w => spLaw (K w.params)) hn (by decide) hdf ⟨rfl, by decide, by decide⟩ hY F (fun _ _ a ns hl _ hS => ⟨a, ns, rfl, hS, hl, fun _ => rfl⟩) fun _ _ _ _ _ z => z
end Sg

set_option Elab.async false
set_option linter.all false
set_option maxRecDepth 100000
set_option maxHeartbeats 8000000
open PySem PySem.W PyProof.Rows
set_option maxRecDepth 100000 in
set_option maxHeartbeats 0 in
theorem PySem.Challenge.cw_spindlegate_k39_sessions_holds : PySem.Challenge.rw_spindlegate_k39_sessions.Holds := by
  w_on; o_law; k_head; (case hw => w_witness2)
  k_fill
  refine Sg.walk_law (l := PySem.Challenge.rw_spindlegate_k39_sessions) rfl rfl (fun w h Y => PySem.W.kIn_of Y) ?F
  case F =>
    intro w mg fa h KX G hmg
    refine' Sg.all_mk KX G hmg ?aN_ ?aS_ ?xNe ?kNe ?bNe ?tNe ?sNe ?iSe ?bSe ?tSe ?aC ?pg ?hd ?po ?sa ?mk ?kc ?n1 ?n2 ?e1N ?e2N ?e3N ?e4N ?e7N ?e5 ?e6 ?aMI ?iMI ?lMI ?cMI ?kMI ?aMM ?iMM ?lMM ?cMM ?kMM ?aMO ?iMO ?lMO ?cMO ?kMO ?aMC ?iMC ?lMC ?cMC ?kMC ?aMN ?iMN ?lMN ?cMN ?kMN ?aMB ?iMB ?lMB ?cMB ?kMB ?aMK ?iMK ?lMK ?cMK ?kMK ?aME ?iME ?lME ?cME ?kME ?aMP ?iMP ?lMP ?cMP ?kMP ?aN ?lN ?cN ?kN ?aTo ?lTo ?cTo ?kTo ?aCo ?lCo ?cCo ?kCo ?aKi ?lKi ?cKi ?kKi ?aBe ?lBe ?cBe ?kBe ?aKp ?lKp ?cKp ?kKp ?aSh ?lSh ?cSh ?kSh ?aKt ?lKt ?cKt ?kKt ?aDe ?lDe ?cDe ?kDe ?aL ?lL ?cL ?kL ?z_len ?z_abs ?z_int ?z_list ?z_tuple ?z_sorted ?z_range ?z_isinstance ?z_bool ?z_max ?z_dict
    (case aN_ => k_is)
    (case aS_ => k_is)
    (case xNe => k_exc)
    (case kNe => k_is)
    (case bNe => k_is)
    (case tNe => k_is)
    (case sNe => first | rfl | k_is)
    (case iSe => k_is)
    (case bSe => k_is)
    (case tSe => k_is)
    (case aC => k_is)
    (case pg => k_is)
    (case hd => k_is)
    (case po => k_is)
    (case sa => k_is)
    (case mk => k_is)
    (case kc => k_is)
    (case n1 => k_is)
    (case n2 => k_is)
    (case e1N => k_is)
    (case e2N => k_is)
    (case e3N => k_is)
    (case e4N => k_is)
    (case e7N => first | rfl | k_is)
    (case e5 => first | rfl | k_is)
    (case e6 => first | rfl | k_is)
    (case aMI => k_is)
    (case iMI => k_is)
    (case lMI => k_is)
    (case cMI => k_is)
    (case kMI => k_is)
    (case aMM => k_is)
    (case iMM => k_is)
    (case lMM => k_is)
    (case cMM => k_is)
    (case kMM => k_is)
    (case aMO => k_is)
    (case iMO => k_is)
    (case lMO => k_is)
    (case cMO => k_is)
    (case kMO => k_is)
    (case aMC => k_is)
    (case iMC => k_is)
    (case lMC => k_is)
    (case cMC => k_is)
    (case kMC => k_is)
    (case aMN => k_is)
    (case iMN => k_is)
    (case lMN => k_is)
    (case cMN => k_is)
    (case kMN => k_is)
    (case aMB => k_is)
    (case iMB => k_is)
    (case lMB => k_is)
    (case cMB => k_is)
    (case kMB => k_is)
    (case aMK => k_is)
    (case iMK => k_is)
    (case lMK => k_is)
    (case cMK => k_is)
    (case kMK => k_is)
    (case aME => k_is)
    (case iME => k_is)
    (case lME => k_is)
    (case cME => k_is)
    (case kME => k_is)
    (case aMP => k_is)
    (case iMP => k_is)
    (case lMP => k_is)
    (case cMP => k_is)
    (case kMP => k_is)
    (case aN => k_is)
    (case lN => k_is)
    (case cN => k_is)
    (case kN => k_is)
    (case aTo => k_is)
    (case lTo => k_is)
    (case cTo => k_is)
    (case kTo => k_is)
    (case aCo => k_is)
    (case lCo => k_is)
    (case cCo => k_is)
    (case kCo => k_is)
    (case aKi => k_is)
    (case lKi => k_is)
    (case cKi => k_is)
    (case kKi => k_is)
    (case aBe => k_is)
    (case lBe => k_is)
    (case cBe => k_is)
    (case kBe => k_is)
    (case aKp => k_is)
    (case lKp => k_is)
    (case cKp => k_is)
    (case kKp => k_is)
    (case aSh => k_is)
    (case lSh => k_is)
    (case cSh => k_is)
    (case kSh => k_is)
    (case aKt => k_is)
    (case lKt => k_is)
    (case cKt => k_is)
    (case kKt => k_is)
    (case aDe => k_is)
    (case lDe => k_is)
    (case cDe => k_is)
    (case kDe => k_is)
    (case aL => k_is)
    (case lL => k_is)
    (case cL => k_is)
    (case kL => k_is)
    (case z_len => k_is)
    (case z_abs => k_is)
    (case z_int => k_is)
    (case z_list => k_is)
    (case z_tuple => k_is)
    (case z_sorted => k_is)
    (case z_range => k_is)
    (case z_isinstance => k_is)
    (case z_bool => k_is)
    (case z_max => k_is)
    (case z_dict => k_is)

