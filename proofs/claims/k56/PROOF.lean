import PyProof.Rows.All
import Wide.All
import OpenK.AllK
import Wide.FinOn
import HandS.Base
import HandS.Call
import HandS.List
import HandS.Comp
import HandS.Ends
import HandS.Dict
import HandS.Iter
import HandS.Text
import HandS.Words
import HandS.WordsList
import HandS.Steps
import HandS.Evl
import HandS.Exc
import HandS.TryOnly
import HandS.ExcOwn
import HandS.WordsExc
import HandS.IsInst
import HandS.ExcIs
import HandS.Deep
import HandS.More
import HandS.WrittenGet
import KE.KIndexOf
import HandS.Zip
import HandS.Star
import PyProof.RulesMatch
import PyProof.RulesMatchSeq
import PyProof.Rows.MatchSeqLen
import PyProof.Rows.TupIter
import HandS.DictComp
import PySem.Challenge.RW_spindlegate_k56_hosts_know_what_became_o
set_option Elab.async false
set_option linter.all false
set_option maxRecDepth 100000
set_option maxHeartbeats 4000000
/-! General lemmas: readings of expressions, small heaps, lists. -/
namespace Sg
open PySem PySem.Spec PyProof.Rows L2
section
variable {σ : L2.St} {H : Hp} {ta tb te : TE} {i j : Int} {K : PySem.W.Frag} {x y z : V}
theorem v0 {g : Int → Int → V} (ha : Val ta σ H (.int i)) (hb : Val tb σ H (.int j)) : Val (tOp (rI0 g) ta tb) σ H (g i j) := val_op ha hb fun _ q => ⟨i, j, rfl, rfl, q⟩
theorem vc {C : Int → Int → Prop} {g : Int → Int → V} (ha : Val ta σ H (.int i)) (hb : Val tb σ H (.int j)) (hc : C i j) : Val (tOp (rI C g) ta tb) σ H (g i j) := val_op ha hb fun _ q => ⟨i, j, rfl, rfl, hc, q⟩
theorem vEq (ha : Val ta σ H x) (hb : Val tb σ H y) (hs : scal x y = true) : Val (tOp rEq ta tb) σ H (.bl (decide (x = y))) := val_op ha hb fun _ q => ⟨hs, q⟩
theorem vNe (ha : Val ta σ H x) (hb : Val tb σ H y) (hs : scal x y = true) : Val (tOp rNe ta tb) σ H (.bl (!decide (x = y))) := val_op ha hb fun _ q => ⟨hs, q⟩
theorem vIx {p : Addr} {xs : List V} {n : Nat} (ha : Val ta σ H (.ref p)) (hb : Val tb σ H (.int (n : Int))) (hp : SqL K H p xs) (hn : xs[n]? = some z) : Val (tOp (rIxL K) ta tb) σ H z :=
  val_op ha hb fun _ q => ⟨p, xs, _, z, rfl, rfl, hp, atI_nat hn, q⟩
theorem vIs {v w : V} (h : Val te σ H v) (e : v = w) : Val te σ H w := e ▸ h
/-- a built-in's call of one argument -/
theorem vCB1 {r : List V → Hp → VK → Prop} (ha : Val ta σ H x) (hr : ∀ Q : VK, Q z H → r [x] H Q) : Val (tCB r (tCons ta tNil)) σ H z := fun Q q => ha _ (hr Q q)
theorem vCB2 {r : List V → Hp → VK → Prop} (ha : Val ta σ H x) (hb : Val tb σ H y) (hr : ∀ Q : VK, Q z H → r [x, y] H Q) : Val (tCB r (tCons ta (tCons tb tNil))) σ H z := fun Q q => ha _ (hb _ (hr Q q))
theorem aTest {b : Bool} (h : Val te σ H (.bl b)) : Ans (tTest te) σ H b := fun Q q => h _ ⟨b, rfl, q⟩
end
theorem map_get {α β : Type} {f : α → β} {l : List α} {i : Nat} {y : β} (h : (l.map f)[i]? = some y) : ∃ z, l[i]? = some z ∧ y = f z := by
  rw [List.getElem?_map] at h
  cases e : l[i]? with
  | none =>
    rw [e] at h
    cases h
  | some z =>
    rw [e] at h
    exact ⟨z, rfl, (Option.some.inj h).symm⟩
theorem get_map {α β : Type} {f : α → β} {l : List α} {i : Nat} {z : α} (h : l[i]? = some z) : (l.map f)[i]? = some (f z) := by rw [List.getElem?_map, h]; rfl
theorem upd_two {H : Hp} {a : Addr} {o u : HO} : upd (upd H a o) a u = upd H a u := upd_upd
theorem same_new {H : Hp} {p : Addr} {o : HO} (h : H p = Option.none) : Same H (upd H p o) := fun b u e => by
  rw [upd_ne (ne_of_none e h)]
  exact e
end Sg

set_option Elab.async false
set_option linter.all false
set_option maxRecDepth 100000
set_option maxHeartbeats 4000000
namespace Sg
open PySem PySem.Spec PyProof.Rows L2
/-! ### rules of our own -/
section
variable {X : Cx}
/-- C(), an own exception without an __init__ of its own -/
theorem pmk_own0 {C : Addr} {bmB : List Value} {B newId initId : String} {x : Str} {p pos : Pos} (F : ExcBaseFacts B newId initId bmB) (q : PySem.W.excIn X.K C bmB newId = true) (gC : X.mg x = some (.ref C))
    (kC : PySem.W.keepIn X.K (.ref C) = true) (r : Raises X (.ref C)) (hg : Gl X x) (hdb : (x == ("__debug__" : Str)) = false := by decide) :
    PMk X (.Call (.Name x p) [] [] pos) (fun _ H Q => Q (.ref C) none H) := by
  intro pins s σ H Q I h
  refine wpAny_Call_Name_kw (ld_glob I hg gC ?_ hdb)
  refine PySem.W.callWith_K0 I.kIn kC ?_
  obtain ⟨bm, N, nm, qn, bs, hdct, sn, sub, ab, col, dd, k0, k1, k2, k3, k5, mN, hC, hN, hni, T⟩ := exc_obj I.kIn q
  exact wpAny_call_exc_subT F T hC hN hni (fun h' e hm => mk_of I hm r h (I.hok.gone hm.new)) (Nat.zero_le _)
/-- o[i] of a list, by values, a place in bounds from the left -/
def rGetL (K : PySem.W.Frag) : V → V → Hp → VK → Prop := fun o i H Q => ∃ p xs n v, o = .ref p ∧ i = .int ((n : Nat) : Int) ∧ SqL K H p xs ∧ xs[n]? = some v ∧ Q v H
theorem get_list : PGet X (rGetL X.K) := by
  intro pins s σ H o i ov iv Q I ro ri h
  obtain ⟨p, xs, n, v, rfl, rfl, hq, he, q⟩ := h
  cases ro
  obtain ⟨t, rfl⟩ := ri
  obtain ⟨its, r, pl, hz⟩ := I.list hq
  obtain ⟨w, ew, rw'⟩ := r.get he
  have hl := r.length
  have hn := line63
  have hb := (List.getElem?_eq_some_iff.mp he).1
  exact wpAny_getItem_list pl.isList (by omega) (by omega) (by simpa using ew) ⟨v, H, I, rw', q⟩
/-- l.count(y): how many are equal, data of any depth -/
def rCountD (K : PySem.W.Frag) : V → List V → Hp → VK → Prop := fun x xs H Q => ∃ (a : Addr) (y : V) (d : PyData) (ds : List PyData), x = V.ref a ∧ xs = [y] ∧ Dp K H (V.ref a) (.list ds) ∧ Dp K H y d ∧
  SeqAt.shaped (.list ds) = true ∧ SeqAt.shaped d = true ∧ Q (.int (ds.countP (fun z => PyData.eqv z d) : Nat)) H
theorem mt_countD (hu : X.A.units + 65 < cLine) : MtR X "list.count" (rCountD X.K) := by
  intro pins s σ H x xs v us Q I rx rxs h
  obtain ⟨a, y, d, ds, rfl, rfl, hl, hy, sl, sd, q⟩ := h
  cases rx
  cases rxs with
  | cons ry rt =>
    rename_i uy ut
    cases rt
    obtain ⟨bs, r1⟩ := Dp.reads I d y uy hy ry
    have hxs : PyData.canLayAll0 ds = true := SeqAt.canLay_of_shaped sl
    have hroom : X.A.units + 1 + min (PyData.depthAll ds) d.depth < cLine := room_in_shaped sd hu
    cases hl with
    | lst hs ha =>
      obtain ⟨its, rv, ⟨⟨cls, dd, data, sls⟩, n, ho, hc, hdn, hdt⟩, hlen⟩ := I.list hs
      simp only at hc hdt
      subst hc hdt
      obtain ⟨as, h4⟩ := Dp.readsAll I ds _ its ha rv
      have hmap : its.map (SeqAt.readOf s.heap) = ds := SeqAt.readsAll_map ds its as hxs h4
      refine call_meets PySem.F.slot_list_count ⟨_, ho, rfl⟩ PySem.F.entry_list_count (PySem.F.args_list_count_2 _ _)
        (SeqAt.list_countAt a its.toArray n dd sls uy (fun u => PyData.eqv (SeqAt.readOf s.heap u) d)) ⟨ho, SeqAt.items_eqAt (vs := its.toArray) (show ReadsAll s.heap its.toArray.toList ds as from h4) r1 hxs (SeqAt.canLay_of_shaped sd) hroom, ?_⟩
      have ec : its.toArray.toList.countP (fun u => PyData.eqv (SeqAt.readOf s.heap u) d) = ds.countP (fun z => PyData.eqv z d) := by
        rw [← hmap, List.countP_map]
        rfl
      refine ⟨.int (ds.countP (fun z => PyData.eqv z d) : Nat), H, I.tok _, ⟨s.toks, ?_⟩, q⟩
      show Value.int ((its.toArray.toList.countP (fun u => PyData.eqv (SeqAt.readOf s.heap u) d) : Nat) : Int) s.toks = _
      rw [ec]
/-- isinstance(e, c), e the exception that the suite holds, whatever its class is -/
def rIsX (K : PySem.W.Frag) (a : Addr) (cls : Value) (d : Option Addr) : List V → Hp → VK → Prop := fun xs H Q => ∃ (D : Addr) (c : V) (cv : Value) (b : Bool), cls = .ref D ∧ d = none ∧ ExcC K D ∧ xs = [.ref a, c] ∧ (∀ u, RelV c u → u = cv) ∧ PySem.W.kitOne K (.ref D) cv = some b ∧ Q (.bl b) H
theorem call_isX {a : Addr} {oe : Obj} {cls : Value} {d : Option Addr} {pn : List (Addr × Obj)} (hz : Zc cls d oe) (hf : ∃ vs, oe.data = .fields vs) : CallR (X.suite a ((a, oe) :: pn)) (.builtin "isinstance") (rIsX X.K a cls d) := by
  intro pins s σ H xs us Q I r h
  obtain ⟨D, c, cv, b, rfl, rfl, C, rfl, hcv, e, q⟩ := h
  exact call_isE C hz hf pins s σ H _ us Q I r ⟨c, cv, b, rfl, hcv, e, q⟩
end
/-- an exception of a subclass is what the clause names -/
theorem exm_sub {K : PySem.W.Frag} {S T : Addr} (h1 : PySem.W.subIn K (.ref T) (.type "BaseException") = some true) (h2 : PySem.W.isClsIn K T = true) (h3 : PySem.W.typeIn K (.ref T) = some (.type "type")) (h4 : PySem.W.subIn K (.ref S) (.ref T) = some true) :
    PySem.W.exmOne K (.ref S) (.ref T) = some true := by
  have e1 : (PySem.W.subIn K (.ref T) (.type "BaseException") == some true) = true := by rw [h1] <;> rfl
  have e2 : ((PySem.W.clsIn K T).isSome && PySem.W.typeIn K (.ref T) == some (.type "type")) = true := by
    have h2' : (PySem.W.clsIn K T).isSome = true := h2
    rw [h2', h3] <;> rfl
  show (if (PySem.W.subIn K (.ref T) (.type "BaseException") == some true) = true then (if ((PySem.W.clsIn K T).isSome && PySem.W.typeIn K (.ref T) == some (.type "type")) = true then PySem.W.subIn K (.ref S) (.ref T) else none) else none) = some true
  rw [if_pos e1, if_pos e2]
  exact h4
end Sg

set_option Elab.async false
set_option linter.all false
set_option maxRecDepth 100000
set_option maxHeartbeats 4000000
namespace Sg
open PySem PySem.Spec PyProof.Rows L2
def top (i : Nat) : Stmt := PySem.Challenge.pw_spindlegate_k56_hosts_know_what_became_o.main.body.getD i (.Pass ⟨0, 0, 0, 0⟩)
abbrev cH (i : Nat) : Stmt := inClass (top 1) i
abbrev sNext : Stmt := top 3
abbrev sLetter : Stmt := top 4
abbrev sNote : Stmt := top 5
abbrev sDue : Stmt := top 6
abbrev sConnd : Stmt := top 7
abbrev sLBegin : Stmt := top 8
abbrev sLaw : Stmt := top 9
structure Def (P : Program) (wd : World) (K : PySem.W.Frag) (mg : Str → Option Value) (base : Heap) (CX : CXT) (x : Str) (k : Nat) (ps : List Str) (sp : Sp) (f : Addr) (fd : FuncData) : Prop where
  ok : FnOk P wd K mg base CX k f fd ps sp
  bd : Binds K fd ps []
  kp : PySem.W.keepIn K (.ref f) = true
  mg : mg x = some (.ref f)
/-! ### what is kept -/
/-- every tuple is kept -/
structure TK (H H' : Hp) : Prop where
  t : ∀ a xs, H a = some (.tup xs) → H' a = some (.tup xs)
  f : ∀ a o xs, H a = some (.frz o (.tup xs)) → H' a = some (.frz o (.tup xs))
theorem TK.refl (H : Hp) : TK H H := ⟨fun _ _ h => h, fun _ _ _ h => h⟩
theorem TK.trans {H H1 H2 : Hp} (a : TK H H1) (b : TK H1 H2) : TK H H2 := ⟨fun x y h => b.t _ _ (a.t _ _ h), fun x y z h => b.f _ _ _ (a.f _ _ _ h)⟩
theorem TK.of {H H' : Hp} (s : Same H H') : TK H H' := ⟨fun _ _ h => s _ _ h, fun _ _ _ h => s _ _ h⟩
def Off (xs : List Addr) (H H' : Hp) : Prop := ∀ b o, H b = some o → b ∉ xs → H' b = some o
theorem Off.refl {xs : List Addr} (H : Hp) : Off xs H H := fun _ _ h _ => h
theorem Off.trans {xs : List Addr} {H H1 H2 : Hp} (a : Off xs H H1) (b : Off xs H1 H2) : Off xs H H2 := fun x o h n => b _ _ (a _ _ h n) n
theorem Off.of {xs : List Addr} {H H' : Hp} (s : Same H H') : Off xs H H' := fun _ _ h _ => s _ _ h
theorem Off.upd {xs : List Addr} {H : Hp} {p : Addr} {o : HO} (h : p ∈ xs) : Off xs H (upd H p o) := fun b u e n => by
  rw [upd_ne (fun (z : b = p) => n (by rw [z]; exact h))]; exact e
/-- lists and dicts alone were changed -/
theorem TK.off {xs : List Addr} {H H' : Hp} (o : Off xs H H') (h : ∀ x ∈ xs, (∃ l, H x = some (.lst l)) ∨ ∃ d, H x = some (.dK d)) : TK H H' := by
  refine ⟨fun a l e => o _ _ e fun m => ?_, fun a b l e => o _ _ e fun m => ?_⟩
  · rcases h a m with ⟨z, q⟩ | ⟨z, q⟩ <;> (rw [e] at q; cases q)
  · rcases h a m with ⟨z, q⟩ | ⟨z, q⟩ <;> (rw [e] at q; cases q)
section
variable {K : PySem.W.Frag} {H H' : Hp}
theorem sqT_tk {a : Addr} {xs : List V} (h : SqT K H a xs) (s : TK H H') : SqT K H' a xs := by
  rcases h with (h | ⟨o, h⟩) | h
  · exact .inl (.inl (s.t _ _ h))
  · exact .inl (.inr ⟨o, s.f _ _ _ h⟩)
  · exact .inr h
end
def strIn (s : Str) (ns : List Str) : Bool := ns.any fun y => decide (y = s)
theorem inV_str {s : Str} : ∀ {ns : List Str}, inV (.str s) (ns.map V.str) = strIn s ns
  | [] => rfl
  | n :: ns => by
    show (eqV (.str n) (.str s) || inV (.str s) (ns.map V.str)) = (decide (n = s) || strIn s ns)
    rw [inV_str (ns := ns)]
    rfl
theorem flat_strs : ∀ {ns : List Str}, (ns.map V.str).all flatV = true
  | [] => rfl
  | n :: ns => by rw [List.map_cons, List.all_cons, flat_strs (ns := ns)]; rfl
def strInD (ns : List Str) : PyData → Bool
  | .str s => strIn s ns
  | _ => false
theorem str_eqT {x : Str} : decide (V.str x = V.str x) = true := decide_eq_true rfl
theorem str_eqF {x y : Str} (h : ¬ x = y) : decide (V.str x = V.str y) = false := decide_eq_false (fun z => h (by cases z; rfl))
theorem nil_ {σ : L2.St} {H : Hp} {Q : List V → Hp → Prop} (h : Q [] H) : tNil σ H Q := h
theorem tc_ {σ : L2.St} {H : Hp} {v : V} {Q : List V → Hp → Prop} (h : Q [v] H) : tCons (tC v) tNil σ H Q := h
theorem yesIte {σ : L2.St} {H : Hp} {A B : Hp → Prop} (h : A H) : tYes σ H (fun b H3 => if b = true then A H3 else B H3) := by
  show (if true = true then A H else B H)
  rw [if_pos rfl]; exact h
/-- a method, ready to be called -/
structure Mth (P : Program) (wd : World) (K : PySem.W.Frag) (mg : Str → Option Value) (base : Heap) (CX : CXT) (C : Addr) (x : Str) (k : Nat) (ps : List Str) (sp : Sp) (f : Addr) (fd : FuncData) : Prop where
  ok : FnOk P wd K mg base CX k f fd ps sp
  bd : Binds K fd ps []
  me : Meth K C x f
theorem lk_here {k : Str} {v : V} {r : List (Str × V)} : List.lookup k ((k, v) :: r) = some v := by
  have e : (k == k) = true := beq_self_eq_true k
  simp only [List.lookup, e]
theorem lk_past {k g : Str} {v : V} {r : List (Str × V)} (h : (k == g) = false) : List.lookup k ((g, v) :: r) = List.lookup k r := by
  simp only [List.lookup, h]
theorem put_here {f : Str} {v x : V} {r : List (Str × V)} : putF f v ((f, x) :: r) = (f, v) :: r := if_pos rfl
theorem put_past {f g : Str} {v x : V} {r : List (Str × V)} (h : ¬ g = f) : putF f v ((g, x) :: r) = (g, x) :: putF f v r := if_neg h
end Sg

set_option Elab.async false
set_option linter.all false
set_option maxRecDepth 100000
set_option maxHeartbeats 4000000
namespace Sg
open PySem PySem.Spec PyProof.Rows L2
/-! ### data -/
def intB : PyData → Bool
  | .int _ => true
  | .bool _ => true
  | _ => false
def boolB : PyData → Bool
  | .bool _ => true
  | _ => false
def strB : PyData → Bool
  | .str _ => true
  | _ => false
def tupB : PyData → Bool
  | .tuple _ => true
  | _ => false
def lstB : PyData → Bool
  | .list _ => true
  | _ => false
def wholeD : PyData → Bool
  | .int _ => true
  | _ => false
def atLeastD (lo : Int) : PyData → Bool
  | .int i => decide (lo ≤ i)
  | _ => false
def betwD (lo hi : Int) : PyData → Bool
  | .int i => decide (lo ≤ i) && decide (i ≤ hi)
  | _ => false
/-- what a value's type is, by its data -/
theorem dp_ty {K : PySem.W.Frag} {H : Hp} {x : V} {d : PyData} (h : Dp K H x d) : ∃ t, TyX K H x t ∧ PySem.W.kitOne K t (.type "int") = some (intB d) ∧ PySem.W.kitOne K t (.type "bool") = some (boolB d) ∧ PySem.W.kitOne K t (.type "str") = some (strB d) ∧
    PySem.W.kitOne K t (.type "tuple") = some (tupB d) ∧ PySem.W.kitOne K t (.type "list") = some (lstB d) := by
  cases h with
  | non => exact ⟨_, .base .non, (show PySem.W.kitOne K (.type "NoneType") (.type "int") = some false from kit_ty (by decide +kernel)), (show PySem.W.kitOne K (.type "NoneType") (.type "bool") = some false from kit_ty (by decide +kernel)), (show PySem.W.kitOne K (.type "NoneType") (.type "str") = some false from kit_ty (by decide +kernel)), (show PySem.W.kitOne K (.type "NoneType") (.type "tuple") = some false from kit_ty (by decide +kernel)), (show PySem.W.kitOne K (.type "NoneType") (.type "list") = some false from kit_ty (by decide +kernel))⟩
  | bl b => exact ⟨_, .base (.bl b), (show PySem.W.kitOne K (.type "bool") (.type "int") = some true from kit_ty (by decide +kernel)), (show PySem.W.kitOne K (.type "bool") (.type "bool") = some true from kit_ty (by decide +kernel)), (show PySem.W.kitOne K (.type "bool") (.type "str") = some false from kit_ty (by decide +kernel)), (show PySem.W.kitOne K (.type "bool") (.type "tuple") = some false from kit_ty (by decide +kernel)), (show PySem.W.kitOne K (.type "bool") (.type "list") = some false from kit_ty (by decide +kernel))⟩
  | int i => exact ⟨_, .base (.int i), (show PySem.W.kitOne K (.type "int") (.type "int") = some true from kit_ty (by decide +kernel)), (show PySem.W.kitOne K (.type "int") (.type "bool") = some false from kit_ty (by decide +kernel)), (show PySem.W.kitOne K (.type "int") (.type "str") = some false from kit_ty (by decide +kernel)), (show PySem.W.kitOne K (.type "int") (.type "tuple") = some false from kit_ty (by decide +kernel)), (show PySem.W.kitOne K (.type "int") (.type "list") = some false from kit_ty (by decide +kernel))⟩
  | str x => exact ⟨_, .base (.str x), (show PySem.W.kitOne K (.type "str") (.type "int") = some false from kit_ty (by decide +kernel)), (show PySem.W.kitOne K (.type "str") (.type "bool") = some false from kit_ty (by decide +kernel)), (show PySem.W.kitOne K (.type "str") (.type "str") = some true from kit_ty (by decide +kernel)), (show PySem.W.kitOne K (.type "str") (.type "tuple") = some false from kit_ty (by decide +kernel)), (show PySem.W.kitOne K (.type "str") (.type "list") = some false from kit_ty (by decide +kernel))⟩
  | lst hs _ =>
    refine ⟨.type "list", ?_, (show PySem.W.kitOne K (.type "list") (.type "int") = some false from kit_ty (by decide +kernel)), (show PySem.W.kitOne K (.type "list") (.type "bool") = some false from kit_ty (by decide +kernel)), (show PySem.W.kitOne K (.type "list") (.type "str") = some false from kit_ty (by decide +kernel)), (show PySem.W.kitOne K (.type "list") (.type "tuple") = some false from kit_ty (by decide +kernel)), (show PySem.W.kitOne K (.type "list") (.type "list") = some true from kit_ty (by decide +kernel))⟩
    rcases hs with (h | ⟨o, h⟩) | ⟨o, its, n, h1, h2, _⟩
    · exact .base (.lst h)
    · exact .base (.frz h)
    · exact .kList h1 h2
  | tup hs _ =>
    refine ⟨.type "tuple", ?_, (show PySem.W.kitOne K (.type "tuple") (.type "int") = some false from kit_ty (by decide +kernel)), (show PySem.W.kitOne K (.type "tuple") (.type "bool") = some false from kit_ty (by decide +kernel)), (show PySem.W.kitOne K (.type "tuple") (.type "str") = some false from kit_ty (by decide +kernel)), (show PySem.W.kitOne K (.type "tuple") (.type "tuple") = some true from kit_ty (by decide +kernel)), (show PySem.W.kitOne K (.type "tuple") (.type "list") = some false from kit_ty (by decide +kernel))⟩
    rcases hs with (h | ⟨o, h⟩) | ⟨o, its, n, h1, h2, _⟩
    · exact .base (.tup h)
    · exact .fTuple h
    · exact .kTuple h1 h2
theorem SqT_same {K : PySem.W.Frag} {H H' : Hp} {a : Addr} {xs : List V} (s : Same H H') (h : SqT K H a xs) : SqT K H' a xs := by
  rcases h with (h | ⟨o, h⟩) | h
  · exact .inl (.inl (s _ _ h))
  · exact .inl (.inr ⟨o, s _ _ h⟩)
  · exact .inr h
mutual
theorem dp_same {K : PySem.W.Frag} {H H' : Hp} (s : Same H H') : ∀ (d : PyData) (x : V), Dp K H x d → Dp K H' x d
  | .none, _, h => by cases h; exact .non
  | .bool _, _, h => by cases h; exact .bl _
  | .int _, _, h => by cases h; exact .int _
  | .str _, _, h => by cases h; exact .str _
  | .list ds, _, h => by
    cases h with
    | lst hs ha => exact .lst (s.seq hs) (dpAll_same s ds _ ha)
  | .tuple ds, _, h => by
    cases h with
    | tup hs ha => exact .tup (SqT_same s hs) (dpAll_same s ds _ ha)
  | .dict _, _, h => by cases h
theorem dpAll_same {K : PySem.W.Frag} {H H' : Hp} (s : Same H H') : ∀ (ds : List PyData) (xs : List V), DpAll K H xs ds → DpAll K H' xs ds
  | [], _, h => by cases h; exact .nil
  | d :: ds, _, h => by
    cases h with
    | cons a b => exact .cons (dp_same s d _ a) (dpAll_same s ds _ b)
end
theorem boot_isi : bootBuiltins "isinstance" = some (.builtin "isinstance") := by decide +kernel
end Sg

set_option Elab.async false
set_option linter.all false
set_option maxRecDepth 100000
set_option maxHeartbeats 4000000
namespace Sg
open PySem PySem.Spec PyProof.Rows L2
open HT
section
variable {prog : Program} {w : World} {A : Around} {E : Value → Shared → Prop} {s : Shared}
/-- t[lo:hi] that takes all of a tuple is the tuple itself -/
theorem tup_all {t sl : Addr} {items : Array Value} {vl vu : Value} {lo hi : Option Int} {Q : Value → Shared → Prop} (ht : IsTup s.heap t items) (hs : s.heap.IsSliceOf sl vl vu .none) (pl : IsPart vl lo) (pu : IsPart vu hi)
    (h1 : sIx items.size 0 lo = 0) (h2 : sIx items.size items.size hi = items.size) (h : Q (.ref t) s) : wpAny (model prog w) A (getItem (.ref t) (.ref sl)) Q E s := by
  obtain ⟨os, hos, hcs, hds⟩ := id hs
  have hTs : s.TypeIs (.ref sl) "slice" := ⟨os, hos, hcs⟩
  unfold getItem
  try with_reducible refine wpAny_holding ?_
  first | refine wpAny_bind (wpAny_pure ?_) | skip
  refine wpAny_bind (wpAny_sequenceKey ht.typeIs (by decide) ?_)
  refine wpAny_bind (wpAny_callSpecial?_slot (name := Str.ofString "__getitem__") ht.typeIs PyProof.Rows.slot_tuple_getitem
    (wpAny_call_entry PyProof.Rows.slot_tuple_getitem ht.typeIs entry_tuple_getitem ?_ (args_tuple_getitem _ _)))
  show wpAny _ _ (Builtin.Tuple.tupleItemsOf (.ref t) >>= _) _ _ s
  refine wpAny_bind (tupleItemsOf_ ht (wpAny_bind (wpAny_typeOf hTs ?_)))
  rw [if_pos (by decide)]
  refine wpAny_bind (sliceApplied_gen hs pl pu ?_)
  rw [h1, h2]
  show wpAny _ _ (if (((0 : Nat) : Int) == 0 && (1 : Int) == 1 && (items.size - 0) == items.size) = true then _ else _) _ _ s
  rw [if_pos (by simp)]
  show wpAny _ _ (Builtin.Tuple.tupleIsExact (.ref t) >>= _) _ _ s
  refine wpAny_bind (m := Builtin.Tuple.tupleIsExact _) ?_
  unfold Builtin.Tuple.tupleIsExact
  refine wpAny_bind (wpAny_typeOf ht.typeIs (wpAny_pure ?_))
  rw [if_pos (by decide)]
  exact wpAny_bind (wpAny_rule (wpAny_pure ⟨_, rfl, wpAny_pure h⟩))
end
section
variable {X : Cx}
/-- t[lo:hi], a part or all of a tuple -/
def rSlA (K : PySem.W.Frag) : V → Option Int → Option Int → Hp → VK → Prop := fun x lo hi H Q => ∃ a xs, x = .ref a ∧ SqT K H a xs ∧ ∀ p H', Same H H' → SqT K H' p (cutV xs lo hi) → Q (.ref p) H'
theorem sl_any : SlR X (rSlA X.K) := by
  intro pins s σ H x v vl vu lo hi sl Q I rx hs pl pu h
  obtain ⟨a, xs, rfl, hx, q⟩ := h
  by_cases hw : sIx xs.length 0 lo = 0 ∧ sIx xs.length xs.length hi = xs.length
  · cases rx
    obtain ⟨its, r, ht, hz⟩ := I.tuple hx
    have hlen : its.toArray.size = xs.length := by rw [List.size_toArray]; exact r.length.symm
    refine ⟨"tuple", _, PyProof.Rows.slot_tuple_getitem.lookup, ht.typeIs, ?_⟩
    refine tup_all ht hs pl pu (by rw [hlen]; exact hw.1) (by rw [hlen]; exact hw.2) ⟨.ref a, H, I, rfl, q a H (Same.refl H) ?_⟩
    have e : cutV xs lo hi = xs := by
      unfold cutV
      rw [hw.1, hw.2]
      simp
    rw [e]
    exact hx
  · exact sl_tup pins s σ H (.ref a) v vl vu lo hi sl Q I rx hs pl pu ⟨a, xs, rfl, hx, hw, fun p hp => q p _ (same_new hp) (SqT.of upd_same)⟩
/-- x is b, x is not b: b True or False -/
def rIsB (neg : Bool) : R2 := fun x y H Q => ∃ b c, y = .bl b ∧ x = .bl c ∧ Q (.bl (if neg then !decide (c = b) else decide (c = b))) H
theorem op_isB : OpR X (compareOp .Is) (rIsB false) := by
  intro pins s σ H x y v u Q I rx ry h
  obtain ⟨b, c, rfl, rfl, q⟩ := h
  cases rx
  cases ry
  have e : (Value.bool c == Value.bool b) = decide (c = b) := by cases b <;> cases c <;> rfl
  exact wpAny_is_plain rfl ⟨.bl (decide (c = b)), H, I, by rw [e]; rfl, q⟩
theorem op_isNotB : OpR X (compareOp .IsNot) (rIsB true) := by
  intro pins s σ H x y v u Q I rx ry h
  obtain ⟨b, c, rfl, rfl, q⟩ := h
  cases rx
  cases ry
  have e : (Value.bool c == Value.bool b) = decide (c = b) := by cases b <;> cases c <;> rfl
  show wpAny _ _ ((isSame (Value.bool c) (Value.bool b)) >>= fun z => pure (Value.bool (!z))) _ _ s
  exact wpAny_bind (wpAny_isSame_plain rfl (wpAny_pure ⟨.bl (!decide (c = b)), H, I, by rw [e]; rfl, q⟩))
end
section
variable {K : PySem.W.Frag} {σ : L2.St} {H1 : Hp} {D a b : Addr} {vs : List Nat} {j1 j2 : Nat} {xs ys : List V} {te : TE} {Qd : Hp → Prop}
theorem lc_zipS (bs : List Bool) (hl : xs.length = ys.length) (hlen : bs.length = xs.length) (hD : H1 D = Option.none) (hx : SqT K H1 a xs) (hy : SqT K H1 b ys) (hw : ∀ x y, wipe (((wipe σ vs).set j1 (some x)).set j2 (some y)) vs = wipe σ vs) (hz : xs.length ≤ 1000)
    (he : ∀ (i : Nat) (x y : V) (bb : Bool) (H' : Hp) (Q' : VK), xs[i]? = some x → ys[i]? = some y → bs[i]? = some bb → Same H1 H' → (∀ H'', Same H' H'' → Q' (.bl bb) H'') → te (((wipe σ vs).set j1 (some x)).set j2 (some y)) H' Q')
    (hd : ∀ H', Same H1 H' → H' D = some (.lst (bs.map V.bl)) → Qd H') :
    ∃ W : Nat → Nat → Hp → Prop, (∃ m, W 0 m (upd H1 D (.lst []))) ∧ ∀ i m H, W i m H →
      ((RZ.ItzT K a b).stop i H ∧ Qd H) ∨ ((RZ.ItzT K a b).go i H ∧ ∃ Nx : Hp → Prop, (∀ H', Nx H' → ∃ m', m' < m ∧ W (i + 1) m' H') ∧ ∀ x H', (RZ.ItzT K a b).yld i H x H' → gTup K 2 (gCons (gName j1) (gCons (gName j2) gNil)) x (wipe σ vs) H' fun σ2 H2 => wipe σ2 vs = wipe σ vs ∧ tYes σ2 H2 fun b H3 =>
        if b = true then te σ2 H3 fun y H4 => ∃ acc, H4 D = some (.lst acc) ∧ acc.length < sizeLine ∧ Nx (upd H4 D (.lst (acc ++ [y]))) else Nx H3) := by
  refine ⟨fun i m H => m = xs.length - i ∧ i ≤ xs.length ∧ Same H1 H ∧ H D = some (.lst ((bs.map V.bl).take i)), ⟨xs.length, by simp, Nat.zero_le _, same_new hD, upd_same⟩, ?_⟩
  rintro i m H ⟨rfl, hi, sm, hDl⟩
  have hxa := SqT_same sm hx
  have hyb := SqT_same sm hy
  by_cases hlt : i < xs.length
  · have hix : xs[i]? = some xs[i] := List.getElem?_eq_getElem hlt
    have hiy : ys[i]? = some (ys[i]'(by omega)) := List.getElem?_eq_getElem (by omega)
    have hib : bs[i]? = some (bs[i]'(by omega)) := List.getElem?_eq_getElem (by omega)
    refine .inr ⟨⟨xs, ys, _, _, hxa, hyb, hix, hiy⟩, fun H' => i + 1 ≤ xs.length ∧ Same H1 H' ∧ H' D = some (.lst ((bs.map V.bl).take (i + 1))), fun H' p' => ⟨xs.length - (i + 1), by omega, rfl, p'⟩, ?_⟩
    rintro x H' ⟨T, x0, y0, rfl, hT, rfl, f1, f2⟩
    have e1 := f1 _ hxa
    have e2 := f2 _ hyb
    have s2 := same_new (o := .tup [x0, y0]) hT
    refine ⟨T, _, rfl, SqT.of upd_same, rfl, _, _, rfl, _, _, rfl, rfl, hw _ _, yesIte ?_⟩
    refine he i x0 y0 _ _ _ e1 e2 hib (sm.trans s2) fun H'' s3 => ⟨_, s3 _ _ (s2 _ _ hDl), ?_, by omega, ?_, ?_⟩
    · rw [List.length_take]; exact small1000 (by omega)
    · intro y o hy'
      rw [upd_ne (ne_of_none hy' hD)]
      exact s3 _ _ (s2 _ _ (sm _ _ hy'))
    · rw [upd_same, List.take_add_one, List.getElem?_map, hib]; rfl
  · have e : i = xs.length := by omega
    refine .inl ⟨⟨xs, ys, hxa, hyb, .inl (by omega)⟩, hd H sm ?_⟩
    rw [hDl, e, List.take_of_length_le (by rw [List.length_map]; omega)]
end
theorem dpAll_len {K : PySem.W.Frag} {H : Hp} : ∀ {xs : List V} {ds : List PyData}, DpAll K H xs ds → xs.length = ds.length
  | _, _, .nil => rfl
  | _, _, .cons _ b => by rw [List.length_cons, List.length_cons, dpAll_len b]
theorem dpAll_cons {K : PySem.W.Frag} {H : Hp} {xs : List V} {d : PyData} {ds : List PyData} (h : DpAll K H xs (d :: ds)) : ∃ x xs', xs = x :: xs' ∧ Dp K H x d ∧ DpAll K H xs' ds := by
  cases h with
  | cons a b => exact ⟨_, _, rfl, a, b⟩
theorem dpAll_nil {K : PySem.W.Frag} {H : Hp} {xs : List V} (h : DpAll K H xs []) : xs = [] := by cases h; rfl
theorem dp_tup {K : PySem.W.Frag} {H : Hp} {x : V} {d : PyData} (h : Dp K H x d) (t : tupB d = true) : ∃ a xs ds, x = .ref a ∧ d = .tuple ds ∧ SqT K H a xs ∧ DpAll K H xs ds := by
  cases h <;> first | exact ⟨_, _, _, rfl, rfl, ‹_›, ‹_›⟩ | cases t
theorem dpAll_get {K : PySem.W.Frag} {H : Hp} : ∀ {xs : List V} {ds : List PyData} {i : Nat} {x : V}, DpAll K H xs ds → xs[i]? = some x → ∃ d, ds[i]? = some d ∧ Dp K H x d
  | _, _, i, x, .nil, h => by simp at h
  | _, _, 0, x, .cons a b, h => ⟨_, rfl, by simp at h; subst h; exact a⟩
  | _, _, i + 1, x, .cons a b, h => by
    obtain ⟨d, e1, e2⟩ := dpAll_get b (i := i) (by simpa using h)
    exact ⟨d, by simpa using e1, e2⟩
theorem cut_take {xs : List V} {n : Nat} (h : n ≤ xs.length) : cutV xs Option.none (some (n : Int)) = xs.take n := by
  unfold cutV
  rw [show HT.sIx xs.length 0 none = 0 from HT.sIx_none _ _, HT.sIx_nat, Nat.min_eq_left h]
  simp
theorem cut_drop {xs : List V} {n : Nat} (h : n ≤ xs.length) : cutV xs (some (n : Int)) Option.none = xs.drop n := by
  unfold cutV
  rw [show HT.sIx xs.length xs.length none = xs.length from HT.sIx_none _ _, HT.sIx_nat, Nat.min_eq_left h]
  exact List.take_of_length_le (by rw [List.length_drop]; omega)
theorem shaped_of {d : PyData} (h : d.canLay0 = true) (h' : d.depth ≤ 64) : SeqAt.shaped d = true := by
  show (d.canLay0 && decide (d.depth ≤ 64)) = true
  rw [Bool.and_eq_true]; exact ⟨h, decide_eq_true h'⟩
abbrev cntL : List Int := [1, 2, 1, 3, 2, 1, 2, 1, 2, 2, 1, 3]
end Sg

set_option Elab.async false
set_option linter.all false
set_option maxRecDepth 100000
set_option maxHeartbeats 4000000
/-! match: patterns by values, what they bind by the names' places -/
namespace Sg
open PySem PySem.Spec PyProof.Rows L2
def BindOk (X : Cx) (b : Str × Value) (c : Nat × V) : Prop := X.N[c.1]? = some b.1 ∧ Loc X.env.scope b.1 ∧ (X.fn b.1 = true ∨ X.env.scope.names.lookup b.1 = some .local) ∧ RelV c.2 b.2
inductive OB (X : Cx) : Option (List (Str × Value)) → Option (List (Nat × V)) → Prop
  | none : OB X none none
  | some {bs cs} : Paired (BindOk X) bs cs → OB X (some bs) (some cs)
abbrev TPt := V → Hp → (Option (List (Nat × V)) → Prop) → Prop
abbrev TPts := List V → Hp → (Option (List (Nat × V)) → Prop) → Prop
structure PPt (X : Cx) (p : Pattern) (t : TPt) : Prop where
  run : ∀ (pins : List (Addr × Obj)) (s : Shared) (σ : L2.St) (H : Hp) (v : V) (u : Value) (Q : Option (List (Nat × V)) → Prop), Inv X pins σ H s → RelV v u → t v H Q →
    wpAny (model X.prog X.w) X.A (matchPattern p X.env u) (fun r s' => ∃ o, Inv X pins σ H s' ∧ OB X r o ∧ Q o) X.xe s
structure PPts (X : Cx) (ps : List Pattern) (t : TPts) : Prop where
  run : ∀ (pins : List (Addr × Obj)) (s : Shared) (σ : L2.St) (H : Hp) (vs : List V) (us : List Value) (Q : Option (List (Nat × V)) → Prop), Inv X pins σ H s → Vals vs us → t vs H Q →
    wpAny (model X.prog X.w) X.A (matchEach ps X.env us) (fun r s' => ∃ o, Inv X pins σ H s' ∧ OB X r o ∧ Q o) X.xe s
def mWild : TPt := fun _ _ Q => Q (some [])
def mCap (i : Nat) : TPt := fun v _ Q => Q (some [(i, v)])
def mStr (x : Str) : TPt := fun v _ Q => ∃ y, v = .str y ∧ Q (if y = x then some [] else none)
def mNone : TPt := fun v _ Q => Q (if v = .non then some [] else none)
def mBool (b : Bool) : TPt := fun v _ Q => ∃ c, v = .bl c ∧ Q (if c = b then some [] else none)
def mNil : TPts := fun _ _ Q => Q (some [])
def mCons (t : TPt) (u : TPts) : TPts := fun vs H Q => ∃ v r, vs = v :: r ∧ t v H fun o => match o with
  | none => Q none
  | some bs => u r H fun o' => match o' with
    | none => Q none
    | some cs => Q (some (bs ++ cs))
def mSeq (K : PySem.W.Frag) (n : Nat) (t : TPts) : TPt := fun v H Q => ∃ a xs, v = .ref a ∧ SqT K H a xs ∧ (xs.length = n → t xs H Q) ∧ (xs.length ≠ n → Q none)
theorem Paired.app {α β : Type} {F : α → β → Prop} : ∀ {a : List α} {b : List β} {c : List α} {d : List β}, Paired F a b → Paired F c d → Paired F (a ++ c) (b ++ d)
  | _, _, _, _, .nil, q => q
  | _, _, _, _, .cons r t, q => .cons r (Paired.app t q)
section
variable {X : Cx}
theorem mp_wild {pos : Pos} : PPt X (.MatchAs none none pos) mWild := ⟨fun pins s σ H v u Q I r h => wpAny_matchPattern_Capture ⟨_, I, .some .nil, h⟩⟩
theorem mp_cap {i : Nat} {x : Str} {pos : Pos} (hi : X.N[i]? = some x) (hx : Loc X.env.scope x) (hf : X.fn x = true ∨ X.env.scope.names.lookup x = some .local := by first | exact .inl rfl | exact .inr rfl | assumption) : PPt X (.MatchAs none (some x) pos) (mCap i) :=
  ⟨fun pins s σ H v u Q I r h => wpAny_matchPattern_Capture ⟨_, I, .some (.cons ⟨hi, hx, hf, r⟩ .nil), h⟩⟩
theorem mp_str {x : Str} {j : Nat} {p pos : Pos} : PPt X (.MatchValue (.Constant (.str x) j p) pos) (mStr x) := by
  refine ⟨fun pins s σ H v u Q I r h => ?_⟩
  obtain ⟨y, rfl, q⟩ := h
  refine wpAny_matchPattern_Value (thn ((pe_str (X := X)).run pins s σ H (fun v' H' => v' = .str x ∧ H' = H) I ⟨rfl, rfl⟩) fun u2 s2 ⟨v2, H2, I2, r2, e2, e3⟩ => ?_)
  subst e2 e3
  refine thn (op_eq (X := X) pins s2 σ H2 (.str y) (.str x) u u2 (fun v' H' => v' = .bl (decide (V.str y = V.str x)) ∧ H' = H2) I2 r r2 ⟨rfl, rfl, rfl⟩) fun c s3 ⟨v3, H3, I3, r3, e4, e5⟩ => ?_
  subst e4 e5
  cases r3
  refine wpAny_truthy_bool ?_
  by_cases e : y = x
  · subst e
    rw [decide_eq_true rfl]
    rw [if_pos rfl] at q
    exact ⟨_, I3, .some .nil, q⟩
  · rw [decide_eq_false (fun z => e (by cases z; rfl))]
    rw [if_neg e] at q
    exact ⟨_, I3, .none, q⟩
theorem mp_none {pos : Pos} : PPt X (.MatchSingleton .none pos) mNone := by
  refine ⟨fun pins s σ H v u Q I r h => ?_⟩
  rw [arm_matchPattern_MatchSingleton]
  refine wpAny_pure ?_
  cases v with
  | non => cases r; exact ⟨_, I, .some .nil, h⟩
  | bl b => cases r; exact ⟨_, I, .none, h⟩
  | int i => obtain ⟨t, rfl⟩ := r; exact ⟨_, I, .none, h⟩
  | str i => obtain ⟨t, rfl⟩ := r; exact ⟨_, I, .none, h⟩
  | byt i => obtain ⟨t, rfl⟩ := r; exact ⟨_, I, .none, h⟩
  | flt i => obtain ⟨t, rfl⟩ := r; exact ⟨_, I, .none, h⟩
  | ref a => cases r; exact ⟨_, I, .none, h⟩
  | ty n => cases r; exact ⟨_, I, .none, h⟩
theorem mp_bool {b : Bool} {pos : Pos} : PPt X (.MatchSingleton (.bool b) pos) (mBool b) := by
  refine ⟨fun pins s σ H v u Q I r h => ?_⟩
  obtain ⟨c, rfl, q⟩ := h
  cases r
  rw [arm_matchPattern_MatchSingleton]
  refine wpAny_pure ?_
  cases b <;> cases c
  · exact ⟨_, I, .some .nil, q⟩
  · exact ⟨_, I, .none, q⟩
  · exact ⟨_, I, .none, q⟩
  · exact ⟨_, I, .some .nil, q⟩
theorem mps_nil : PPts X [] mNil := ⟨fun pins s σ H vs us Q I r h => wpAny_matchEach_nil ⟨_, I, .some .nil, h⟩⟩
theorem mps_cons {p : Pattern} {ps : List Pattern} {t : TPt} {u : TPts} (h1 : PPt X p t) (h2 : PPts X ps u) (hp : p.isStar = false := by rfl) : PPts X (p :: ps) (mCons t u) := by
  refine ⟨fun pins s σ H vs us Q I r h => ?_⟩
  obtain ⟨v, vr, rfl, h⟩ := h
  cases r with
  | cons r0 rr =>
    refine wpAny_matchEach_cons (thn (h1.run pins s σ H v _ _ I r0 h) fun r1 s1 ⟨o, I1, ob, q⟩ => ?_) hp
    cases ob with
    | none => exact ⟨_, I1, .none, q⟩
    | some pr =>
      refine thn (h2.run pins s1 σ H vr _ _ I1 rr q) fun r2 s2 ⟨o2, I2, ob2, q2⟩ => ?_
      cases ob2 with
      | none => exact ⟨_, I2, .none, q2⟩
      | some pr2 => exact ⟨_, I2, .some (Paired.app pr pr2), q2⟩
theorem mp_seq {ps : List Pattern} {pos : Pos} {t : TPts} {n : Nat} (hc : X.calm = true) (hs : PPts X ps t) (hn : ps.length = n := by rfl) (hstar : ps.findIdx? (·.isStar) = none := by rfl)
    (hwild : (ps.all fun p => p.isWildcard || (p.isStar && p.names.isEmpty)) = false := by rfl) : PPt X (.MatchSequence ps pos) (mSeq X.K n t) := by
  refine ⟨fun pins s σ H v u Q I r h => ?_⟩
  obtain ⟨a, xs, rfl, hq, h1, h2⟩ := h
  cases r
  obtain ⟨its, rv, ht, hz⟩ := I.tuple hq
  have hl : its.toArray.size = xs.length := by rw [List.size_toArray]; exact rv.length.symm
  have h63 := line63
  by_cases e : xs.length = n
  · refine matchSeq_tuple_hit ht (by rw [hl]; omega) (by rw [hl, hn]; exact e) ?_ hstar hwild
    rw [show ps.length = its.toArray.size by rw [hl, hn, e]]
    have I1 : Inv X pins σ H { s with toks := s.toks + 1 + 1 } := I.tok _
    refine unpackItems_tuple (I.ok.hd hc) ht fun h' hx => ?_
    have I2 : Inv X pins σ H { s with heap := h', toks := s.toks + 1 + 1 } := I.kept (t' := s.toks + 1 + 1) fun b o e => hx b o (Nat.ne_of_lt (Heap.lt_size e)) e
    exact hs.run pins _ σ H xs _ Q I2 rv (h1 e)
  · exact matchSeq_tuple_miss ht (by rw [hl]; omega) (by rw [hl, hn]; exact e) ⟨_, I.tok _, .none, h2 e⟩ hstar hwild
/-! ### the cases -/
abbrev TCs := V → TS
structure PCs (X : Cx) (cs : List MatchCase) (t : TCs) : Prop where
  run : ∀ (pins : List (Addr × Obj)) (s : Shared) (σ : L2.St) (H : Hp) (D : Ends) (v : V) (u : Value) (first : Bool), Inv X pins σ H s → RelV v u → t v D σ H →
    wpAny (model X.prog X.w) X.A (matchCases cs X.env u first) (SP X pins D) X.xe s
def setAll (σ : L2.St) (bs : List (Nat × V)) : L2.St := bs.foldl (fun s b => s.set b.1 (some b.2)) σ
def cNil : TCs := fun _ D σ H => D.nx σ H
def cCons (tp : TPt) (tb : TS) (rest : TCs) : TCs := fun v D σ H => tp v H fun o => match o with
  | none => rest v D σ H
  | some bs => tb D (setAll σ bs) H
theorem pcs_nil : PCs X [] cNil := ⟨fun pins s σ H D v u f I r h => wpAny_matchCases_nil ⟨σ, H, I, h⟩⟩
theorem bind_all (hN : X.N.Nodup) {pins : List (Addr × Obj)} {H : Hp} : ∀ {bs : List (Str × Value)} {cs : List (Nat × V)}, Paired (BindOk X) bs cs → ∀ {σ : L2.St} {s : Shared} {Q : Unit → Shared → Prop}, Inv X pins σ H s →
    (∀ s', Inv X pins (setAll σ cs) H s' → Q () s') → wpAny (model X.prog X.w) X.A (assignInOrder (bs.map fun (n, _) => bindName X.env n) (bs.map (·.2))) Q X.xe s
  | _, _, .nil, σ, s, Q, I, h => wpAny_assignInOrder_none (h s I)
  | _, _, .cons (a := b) (b := c) r t, σ, s, Q, I, h => by
    obtain ⟨x, u⟩ := b
    obtain ⟨i, v⟩ := c
    obtain ⟨h1, h2, h3, h4⟩ := r
    refine wpAny_assignInOrder_more (wpAny_bindName (store_ok I hN h1 h2 h4 (fun s' I' => ?_) h3))
    exact bind_all hN t I' h
theorem pcs_cons {p : Pattern} {body : List Stmt} {rest : List MatchCase} {tp : TPt} {tb : TS} {tr : TCs} (hN : X.N.Nodup) (hp : PPt X p tp) (hb : PSs X body tb) (hr : PCs X rest tr) : PCs X (⟨p, none, body⟩ :: rest) (cCons tp tb tr) := by
  refine ⟨fun pins s σ H D v u f I r h => ?_⟩
  refine wpAny_matchCases_cons (thn (hp.run pins s σ H v u _ I r h) fun o s1 ⟨c, I1, ob, q⟩ => ?_)
  cases ob with
  | none => exact hr.run pins s1 σ H D v u false I1 r q
  | some pr => exact bind_all hN pr I1 fun s' I' => hb.run pins s' _ H D I' q
def tMatch (te : TE) (tc : TCs) : TS := fun D σ H => te σ H fun v H1 => tc v D σ H1
theorem ps_match {e : Expr} {cs : List MatchCase} {pos : Pos} {te : TE} {tc : TCs} (he : PE X e te) (hc : PCs X cs tc) : PS X (.Match e cs pos) (tMatch te tc) := by
  refine ⟨fun pins s σ H D I h => ?_⟩
  exact wpAny_Match (thn (he.run pins s σ H _ I h) fun u s1 ⟨v, H1, I1, r1, q1⟩ => hc.run pins s1 σ H1 D v u true I1 r1 q1)
/-- a case with a guard -/
def cGuard (tp : TPt) (tg : TT) (tb : TS) (rest : TCs) : TCs := fun v D σ H => tp v H fun o => match o with
  | none => rest v D σ H
  | some bs => tg (setAll σ bs) H fun ok H' => if ok = true then tb D (setAll σ bs) H' else rest v D (setAll σ bs) H'
theorem pcs_guard {p : Pattern} {ge : Expr} {body : List Stmt} {rest : List MatchCase} {tp : TPt} {tg : TT} {tb : TS} {tr : TCs} (hN : X.N.Nodup) (hp : PPt X p tp) (hg : PT X ge tg) (hb : PSs X body tb) (hr : PCs X rest tr) : PCs X (⟨p, some ge, body⟩ :: rest) (cGuard tp tg tb tr) := by
  refine ⟨fun pins s σ H D v u f I r h => ?_⟩
  refine wpAny_matchCases_cons (thn (hp.run pins s σ H v u _ I r h) fun o s1 ⟨c, I1, ob, q⟩ => ?_)
  cases ob with
  | none => exact hr.run pins s1 σ H D v u false I1 r q
  | some pr =>
    refine bind_all hN pr I1 fun s' I' => ?_
    refine thn (hg.run pins s' _ H _ I' q) fun ok s2 ⟨H2, I2, q2⟩ => ?_
    cases ok with
    | true =>
      rw [if_pos rfl] at q2
      exact hb.run pins s2 _ H2 D I2 q2
    | false =>
      rw [if_neg Bool.false_ne_true] at q2
      exact hr.run pins s2 _ H2 D v u false I2 r q2
def mInt (n : Int) : TPt := fun v _ Q => ∃ y, v = .int y ∧ Q (if y = n then some [] else none)
theorem mp_int {n : Int} {j : Nat} {p pos : Pos} : PPt X (.MatchValue (.Constant (.int n) j p) pos) (mInt n) := by
  refine ⟨fun pins s σ H v u Q I r h => ?_⟩
  obtain ⟨y, rfl, q⟩ := h
  refine wpAny_matchPattern_Value (thn ((pe_int (X := X)).run pins s σ H (fun v' H' => v' = .int n ∧ H' = H) I ⟨rfl, rfl⟩) fun u2 s2 ⟨v2, H2, I2, r2, e2, e3⟩ => ?_)
  subst e2 e3
  refine thn (op_eq (X := X) pins s2 σ H2 (.int y) (.int n) u u2 (fun v' H' => v' = .bl (decide (V.int y = V.int n)) ∧ H' = H2) I2 r r2 ⟨rfl, rfl, rfl⟩) fun c s3 ⟨v3, H3, I3, r3, e4, e5⟩ => ?_
  subst e4 e5
  cases r3
  refine wpAny_truthy_bool ?_
  by_cases e : y = n
  · subst e
    rw [decide_eq_true rfl]
    rw [if_pos rfl] at q
    exact ⟨_, I3, .some .nil, q⟩
  · rw [decide_eq_false (fun z => e (by cases z; rfl))]
    rw [if_neg e] at q
    exact ⟨_, I3, .none, q⟩
end
end Sg

set_option Elab.async false
set_option linter.all false
set_option maxRecDepth 100000
set_option maxHeartbeats 4000000
namespace Sg
open PySem PySem.Spec PyProof.Rows L2
structure HR where
  n : Int
  s : Int
  c : Int
  st : Str
  le : V
  co : Int
  be : Int
  cm : V
  ke : Addr
  en : Addr
  lo : Addr
/-- the attributes of a host, in the order in which __init__ stores them -/
def HR.f (h : HR) : List (Str × V) := [("number", .int h.n), ("session", .int h.s), ("counter", .int h.c), ("state", .str h.st), ("_letter", h.le), ("_connected", .int h.co), ("_begun", .int h.be), ("_command", h.cm), ("_keys", .ref h.ke), ("_ended", .ref h.en), ("_lost", .ref h.lo)]
theorem hf_n {h : HR} : h.f.lookup ("number" : Str) = some (.int h.n) := lk_here
theorem hf_s {h : HR} : h.f.lookup ("session" : Str) = some (.int h.s) := (lk_past (by decide +kernel)).trans (lk_here)
theorem hf_c {h : HR} : h.f.lookup ("counter" : Str) = some (.int h.c) := (lk_past (by decide +kernel)).trans ((lk_past (by decide +kernel)).trans (lk_here))
theorem hf_st {h : HR} : h.f.lookup ("state" : Str) = some (.str h.st) := (lk_past (by decide +kernel)).trans ((lk_past (by decide +kernel)).trans ((lk_past (by decide +kernel)).trans (lk_here)))
theorem hf_le {h : HR} : h.f.lookup ("_letter" : Str) = some (h.le) := (lk_past (by decide +kernel)).trans ((lk_past (by decide +kernel)).trans ((lk_past (by decide +kernel)).trans ((lk_past (by decide +kernel)).trans (lk_here))))
theorem hf_co {h : HR} : h.f.lookup ("_connected" : Str) = some (.int h.co) := (lk_past (by decide +kernel)).trans ((lk_past (by decide +kernel)).trans ((lk_past (by decide +kernel)).trans ((lk_past (by decide +kernel)).trans ((lk_past (by decide +kernel)).trans (lk_here)))))
theorem hf_be {h : HR} : h.f.lookup ("_begun" : Str) = some (.int h.be) := (lk_past (by decide +kernel)).trans ((lk_past (by decide +kernel)).trans ((lk_past (by decide +kernel)).trans ((lk_past (by decide +kernel)).trans ((lk_past (by decide +kernel)).trans ((lk_past (by decide +kernel)).trans (lk_here))))))
theorem hf_cm {h : HR} : h.f.lookup ("_command" : Str) = some (h.cm) := (lk_past (by decide +kernel)).trans ((lk_past (by decide +kernel)).trans ((lk_past (by decide +kernel)).trans ((lk_past (by decide +kernel)).trans ((lk_past (by decide +kernel)).trans ((lk_past (by decide +kernel)).trans ((lk_past (by decide +kernel)).trans (lk_here)))))))
theorem hf_ke {h : HR} : h.f.lookup ("_keys" : Str) = some (.ref h.ke) := (lk_past (by decide +kernel)).trans ((lk_past (by decide +kernel)).trans ((lk_past (by decide +kernel)).trans ((lk_past (by decide +kernel)).trans ((lk_past (by decide +kernel)).trans ((lk_past (by decide +kernel)).trans ((lk_past (by decide +kernel)).trans ((lk_past (by decide +kernel)).trans (lk_here))))))))
theorem hf_en {h : HR} : h.f.lookup ("_ended" : Str) = some (.ref h.en) := (lk_past (by decide +kernel)).trans ((lk_past (by decide +kernel)).trans ((lk_past (by decide +kernel)).trans ((lk_past (by decide +kernel)).trans ((lk_past (by decide +kernel)).trans ((lk_past (by decide +kernel)).trans ((lk_past (by decide +kernel)).trans ((lk_past (by decide +kernel)).trans ((lk_past (by decide +kernel)).trans (lk_here)))))))))
theorem hf_lo {h : HR} : h.f.lookup ("_lost" : Str) = some (.ref h.lo) := (lk_past (by decide +kernel)).trans ((lk_past (by decide +kernel)).trans ((lk_past (by decide +kernel)).trans ((lk_past (by decide +kernel)).trans ((lk_past (by decide +kernel)).trans ((lk_past (by decide +kernel)).trans ((lk_past (by decide +kernel)).trans ((lk_past (by decide +kernel)).trans ((lk_past (by decide +kernel)).trans ((lk_past (by decide +kernel)).trans (lk_here))))))))))
theorem hp_s {h : HR} {x : Int} : putF "session" (.int x) h.f = ({h with s := x} : HR).f := (put_past (by decide +kernel)).trans (congrArg _ (put_here))
theorem hp_c {h : HR} {x : Int} : putF "counter" (.int x) h.f = ({h with c := x} : HR).f := (put_past (by decide +kernel)).trans (congrArg _ ((put_past (by decide +kernel)).trans (congrArg _ (put_here))))
theorem hp_st {h : HR} {x : Str} : putF "state" (.str x) h.f = ({h with st := x} : HR).f := (put_past (by decide +kernel)).trans (congrArg _ ((put_past (by decide +kernel)).trans (congrArg _ ((put_past (by decide +kernel)).trans (congrArg _ (put_here))))))
theorem hp_le {h : HR} {x : V} : putF "_letter" (x) h.f = ({h with le := x} : HR).f := (put_past (by decide +kernel)).trans (congrArg _ ((put_past (by decide +kernel)).trans (congrArg _ ((put_past (by decide +kernel)).trans (congrArg _ ((put_past (by decide +kernel)).trans (congrArg _ (put_here))))))))
theorem hp_co {h : HR} {x : Int} : putF "_connected" (.int x) h.f = ({h with co := x} : HR).f := (put_past (by decide +kernel)).trans (congrArg _ ((put_past (by decide +kernel)).trans (congrArg _ ((put_past (by decide +kernel)).trans (congrArg _ ((put_past (by decide +kernel)).trans (congrArg _ ((put_past (by decide +kernel)).trans (congrArg _ (put_here))))))))))
theorem hp_be {h : HR} {x : Int} : putF "_begun" (.int x) h.f = ({h with be := x} : HR).f := (put_past (by decide +kernel)).trans (congrArg _ ((put_past (by decide +kernel)).trans (congrArg _ ((put_past (by decide +kernel)).trans (congrArg _ ((put_past (by decide +kernel)).trans (congrArg _ ((put_past (by decide +kernel)).trans (congrArg _ ((put_past (by decide +kernel)).trans (congrArg _ (put_here))))))))))))
theorem hp_cm {h : HR} {x : V} : putF "_command" (x) h.f = ({h with cm := x} : HR).f := (put_past (by decide +kernel)).trans (congrArg _ ((put_past (by decide +kernel)).trans (congrArg _ ((put_past (by decide +kernel)).trans (congrArg _ ((put_past (by decide +kernel)).trans (congrArg _ ((put_past (by decide +kernel)).trans (congrArg _ ((put_past (by decide +kernel)).trans (congrArg _ ((put_past (by decide +kernel)).trans (congrArg _ (put_here))))))))))))))
theorem hp_lo {h : HR} {x : Addr} : putF "_lost" (.ref x) h.f = ({h with lo := x} : HR).f := (put_past (by decide +kernel)).trans (congrArg _ ((put_past (by decide +kernel)).trans (congrArg _ ((put_past (by decide +kernel)).trans (congrArg _ ((put_past (by decide +kernel)).trans (congrArg _ ((put_past (by decide +kernel)).trans (congrArg _ ((put_past (by decide +kernel)).trans (congrArg _ ((put_past (by decide +kernel)).trans (congrArg _ ((put_past (by decide +kernel)).trans (congrArg _ ((put_past (by decide +kernel)).trans (congrArg _ ((put_past (by decide +kernel)).trans (congrArg _ (put_here))))))))))))))))))))
theorem hf_no {h : HR} {m : Str} (q : [("number" : Str), "session", "counter", "state", "_letter", "_connected", "_begun", "_command", "_keys", "_ended", "_lost"].all (fun g => !(m == g)) = true) : h.f.lookup m = Option.none := by
  simp only [List.all_cons, List.all_nil, Bool.and_true, Bool.and_eq_true, Bool.not_eq_true'] at q
  obtain ⟨q0, q1, q2, q3, q4, q5, q6, q7, q8, q9, q10⟩ := q
  exact (lk_past q0).trans ((lk_past q1).trans ((lk_past q2).trans ((lk_past q3).trans ((lk_past q4).trans ((lk_past q5).trans ((lk_past q6).trans ((lk_past q7).trans ((lk_past q8).trans ((lk_past q9).trans ((lk_past q10).trans (rfl)))))))))))
theorem hf_len {h : HR} : h.f.length < 1000 := by show 11 < 1000; decide
/-- what the top has written of the class -/
structure HT5 (K : PySem.W.Frag) (mg : Str → Option Value) (C : Addr) : Prop where
  cl : Cls K C
  k_n : NoAttr K C "number"
  k_s : NoAttr K C "session"
  k_c : NoAttr K C "counter"
  k_st : NoAttr K C "state"
  k_le : NoAttr K C "_letter"
  k_co : NoAttr K C "_connected"
  k_be : NoAttr K C "_begun"
  k_cm : NoAttr K C "_command"
  k_ke : NoAttr K C "_keys"
  k_en : NoAttr K C "_ended"
  k_lo : NoAttr K C "_lost"
  gC : mg "Host" = some (.ref C)
def HAt (C : Addr) (H : Hp) (p : Addr) (h : HR) : Prop := ∃ dx, H p = some (.ins C dx h.f)
theorem HAt.off {C : Addr} {H H' : Hp} {p : Addr} {h : HR} {xs : List Addr} (g : HAt C H p h) (o : Off xs H H') (n : p ∉ xs) : HAt C H' p h := by
  obtain ⟨dx, e⟩ := g
  exact ⟨dx, o _ _ e n⟩
theorem HAt.same {C : Addr} {H H' : Hp} {p : Addr} {h : HR} (g : HAt C H p h) (s : Same H H') : HAt C H' p h := g.off (Off.of (xs := []) s) (by simp)
/-! ### data -/
def cmds6 : List (Str × List Int) := [("register", [2]), ("write", [2, 1, 5]), ("make", [2, 9]), ("leave", [2]), ("flush", []), ("remove", [2])]
def CmdV (K : PySem.W.Frag) (H : Hp) (v : V) (w : Str) (r : List Int) : Prop := ∃ a, v = .ref a ∧ SqT K H a (.str w :: r.map V.int) ∧ (w, r) ∈ cmds6
def flN (v : V) : Prop := v = .non ∨ ∃ i, v = .int i
def AnsV (K : PySem.W.Frag) (H : Hp) (v : V) (w : Str) (x : V) : Prop := ∃ a, v = .ref a ∧ SqT K H a [.str w, x] ∧ PyData.strOk w = true ∧ flN x
theorem CmdV.tk {K : PySem.W.Frag} {H H' : Hp} {v : V} {w : Str} {r : List Int} (h : CmdV K H v w r) (s : TK H H') : CmdV K H' v w r := by
  obtain ⟨a, e, h1, h2⟩ := h
  exact ⟨a, e, sqT_tk h1 s, h2⟩
theorem AnsV.tk {K : PySem.W.Frag} {H H' : Hp} {v x : V} {w : Str} (h : AnsV K H v w x) (s : TK H H') : AnsV K H' v w x := by
  obtain ⟨a, e, h1, h2⟩ := h
  exact ⟨a, e, sqT_tk h1 s, h2⟩
abbrev KS := List (Key × V)
def keyFor (kvs : KS) (w : Str) : V := if strIn w ["make", "register", "flush"] = true then .non else (valV kvs (Sum.inl 2)).getD .non
def keysA (kvs : KS) (w aw : Str) (ax : V) : KS := if aw = "ok" then (if w = "register" then putK kvs (Sum.inl 2) ax else if strIn w ["leave", "remove"] = true then dropK kvs (Sum.inl 2) else kvs) else kvs
theorem cmd_two {w : Str} {r : List Int} (h : (w, r) ∈ cmds6) (n : ¬ strIn w ["make", "register", "flush"] = true ∨ w = "register" ∨ strIn w ["leave", "remove"] = true) : ∃ r', r = 2 :: r' := by
  have : ∀ p ∈ cmds6, (¬ strIn p.1 ["make", "register", "flush"] = true ∨ p.1 = "register" ∨ strIn p.1 ["leave", "remove"] = true) → p.2.head? = some 2 := by decide +kernel
  have := this _ h n
  cases r with
  | nil => cases this
  | cons x r => exact ⟨r, by have h2 : some x = some 2 := this; cases h2; rfl⟩
theorem drop_none {kvs : KS} {k : Key} (h : valV kvs k = none) : dropK kvs k = kvs := by
  unfold dropK
  refine List.filter_eq_self.mpr fun x hx => ?_
  refine decide_eq_true fun e => ?_
  have h1 : kvs.find? (fun kv => decide (kv.1 = k)) = none := by
    unfold valV at h
    cases e2 : kvs.find? (fun kv => decide (kv.1 = k)) with
    | none => rfl
    | some y => rw [e2] at h; cases h
  exact absurd (decide_eq_true e) (List.find?_eq_none.mp h1 x hx)
theorem dget {H : Hp} {d : Addr} {kvs : KS} {h : Int} (e : H d = some (.dK kvs)) : DGet H d (.int h) (valV kvs (Sum.inl h)) := DGet.k (k := Sum.inl h) e
theorem tk_ins {H H' : Hp} {p C dx : Addr} {fs : List (Str × V)} (o : Off [p] H H') (h : H p = some (.ins C dx fs)) : TK H H' :=
  ⟨fun a xs e => o _ _ e (by simpa using ne_of e h (by intro z; cases z)), fun a b xs e => o _ _ e (by simpa using ne_of e h (by intro z; cases z))⟩
/-! ### the promises of the small methods -/
def spBS (C : Addr) : Sp := fun vs H Q _ => ∃ p h, vs = [.ref p] ∧ HAt C H p h ∧ ∀ t H', H t = none → HAt C H' p {h with s := h.s + 1, c := 0, st := "connecting", le := .ref t} → H' t = some (.tup [.str "connect", .int h.n, .int (h.s + 1)]) → Off [p] H H' → Q .non H'
def spRest (C : Addr) : Sp := fun vs H Q _ => ∃ p h, ∃ x : Str, vs = [.ref p, .str x] ∧ HAt C H p h ∧ ∀ H', HAt C H' p {h with st := x, le := .non} → Off [p] H H' → Q .non H'
def spKey (C : Addr) : Sp := fun vs H Q _ => ∃ p h k kvs, vs = [.ref p, .int k] ∧ HAt C H p h ∧ H h.ke = some (.dK kvs) ∧ Q ((valV kvs (Sum.inl k)).getD .non) H
def spKF (K : PySem.W.Frag) (C : Addr) : Sp := fun vs H Q _ => ∃ p h cv w r kvs, vs = [.ref p, cv] ∧ HAt C H p h ∧ CmdV K H cv w r ∧ H h.ke = some (.dK kvs) ∧ ∀ H', Same H H' → Q (keyFor kvs w) H'
def spBC (K : PySem.W.Frag) (C : Addr) : Sp := fun vs H Q _ => ∃ p h cv w r kvs, vs = [.ref p, cv] ∧ HAt C H p h ∧ CmdV K H cv w r ∧ H h.ke = some (.dK kvs) ∧
  ∀ t H', H t = none → HAt C H' p {h with c := h.c + 1, st := "waiting", be := h.c + 1, cm := cv, le := .ref t} → H' t = some (.tup [.str "do", .int h.n, .int h.s, .int (h.c + 1), keyFor kvs w, cv]) → Off [p] H H' → Q .non H'
def spBegin (K : PySem.W.Frag) (C : Addr) : Sp := fun vs H Q _ => ∃ p h cv w r kvs, vs = [.ref p, cv] ∧ HAt C H p h ∧ CmdV K H cv w r ∧ H h.ke = some (.dK kvs) ∧
  (h.st = "new" → ∀ t H', H t = none → HAt C H' p {h with s := h.s + 1, c := 0, st := "connecting", le := .ref t} → H' t = some (.tup [.str "connect", .int h.n, .int (h.s + 1)]) → Off [p] H H' → Q (.ref t) H') ∧
  (h.st = "idle" → ∀ t H', H t = none → HAt C H' p {h with c := h.c + 1, st := "waiting", be := h.c + 1, cm := cv, le := .ref t} → H' t = some (.tup [.str "do", .int h.n, .int h.s, .int (h.c + 1), keyFor kvs w, cv]) → Off [p] H H' → Q (.ref t) H') ∧
  (¬ h.st = "new" → ¬ h.st = "idle" → Q .non H)
def spAgain (C : Addr) : Sp := fun vs H Q _ => ∃ p h, vs = [.ref p] ∧ HAt C H p h ∧ Q h.le H
def spEnded (C : Addr) : Sp := fun vs H Q _ => ∃ p h xs, vs = [.ref p] ∧ HAt C H p h ∧ H h.en = some (.lst xs) ∧ ∀ l, H l = none → Q (.ref l) (upd H l (.lst xs))
def spLost (C : Addr) : Sp := fun vs H Q _ => ∃ p h xs, vs = [.ref p] ∧ HAt C H p h ∧ H h.lo = some (.lst xs) ∧ ∀ l, H l = none → Q (.ref l) (upd H l (.lst xs))
def spEnd (K : PySem.W.Frag) (C : Addr) : Sp := fun vs H Q _ => ∃ p h w r av aw ax kvs es, vs = [.ref p, av] ∧ HAt C H p h ∧ CmdV K H h.cm w r ∧ AnsV K H av aw ax ∧ H h.ke = some (.dK kvs) ∧ kvs.length < 900 ∧ H h.en = some (.lst es) ∧ es.length < 900 ∧
  ∀ t H', H t = none → HAt C H' p {h with cm := .non} → H' h.en = some (.lst (es ++ [.ref t])) → H' t = some (.tup [.int h.co, .int h.be, h.cm, av]) → H' h.ke = some (.dK (keysA kvs w aw ax)) → Off [p, h.en, h.ke] H H' → TK H H' → Q .non H'
structure BB5 (mg : Str → Option Value) : Prop where
  len : mg "len" = none
  abs : mg "abs" = none
  int : mg "int" = none
  list : mg "list" = none
  range : mg "range" = none
  max : mg "max" = none
  isi : mg "isinstance" = none
  bool : mg "bool" = none
section
variable {P : Program} {wd : World} {K : PySem.W.Frag} {mg : Str → Option Value} {base : Heap} {f f1 f2 C : Addr} {fd fd1 fd2 : FuncData}
/-- a field's store, tracked -/
theorem st_at {H : Hp} {p C dx : Addr} {h h' : HR} : (upd H p (.ins C dx h'.f)) p = some (.ins C dx h'.f) := upd_same
theorem scBS : FnScope ["self"] ["self"] (defScope (cH 7)) := ⟨rfl, rfl, rfl, by decide +kernel, rfl, by decide +kernel, by decide +kernel⟩
theorem ok_bs (F : Fun K "_begin_session" "Host._begin_session" (cH 7) f fd) (Tx : HT5 K mg C) : FnOk P wd K mg base CX0 1 f fd ["self"] (spBS C) := by
  refine F.ok scBS (fun vs H Q E h => ?_) (fun cdv A outer s H vs Q E hr h => ?_)
  · obtain ⟨p, h, rfl, _⟩ := h
    rfl
  · obtain ⟨p, h, rfl, ⟨dx, hp⟩, q⟩ := h
    refine ⟨_, (pss_cons (ps_fldaug (pv 0) pe_int in_add)
      (pss_cons (ps_fld (pv 0) pe_int rfl)
      (pss_cons (ps_fld (pv 0) pe_str rfl)
      (pss_one (ps_fld (pv 0) (pe_tup (pa_cons pe_str (pa_cons (pe_fld (pv 0) rfl) (pa_cons (pe_fld (pv 0) rfl) pa_nil)))) rfl))))), ?_⟩
    refine ⟨_, rfl, p, C, _, _, _, rfl, hp, Tx.cl, Tx.k_s, hf_s, _, _, rfl, rfl, _, _, hp, hf_len, ?_⟩
    rw [hp_s]
    refine ⟨_, rfl, p, C, dx, _, rfl, upd_same, Tx.cl, Tx.k_c, hf_len, ?_⟩
    rw [hp_c, upd_upd]
    refine ⟨_, rfl, p, C, dx, _, rfl, upd_same, Tx.cl, Tx.k_st, hf_len, ?_⟩
    rw [hp_st, upd_upd]
    generalize hH1 : upd H p (.ins C dx _) = H1
    have hp1 : H1 p = some (.ins C dx ({h with s := h.s + 1, c := 0, st := "connecting"} : HR).f) := by rw [← hH1]; exact upd_same
    have o1 : Off [p] H H1 := by rw [← hH1]; exact Off.upd (by simp)
    refine ⟨_, rfl, p, C, dx, _, _, rfl, hp1, Tx.cl, Tx.k_n, hf_n, _, rfl, p, C, dx, _, _, rfl, hp1, Tx.cl, Tx.k_s, hf_s, by show 3 ≤ sizeLine; decide, fun t ht => ?_⟩
    have npt : p ≠ t := ne_of_none hp1 ht
    refine ⟨_, rfl, p, C, dx, _, rfl, (by rw [upd_ne npt]; exact hp1), Tx.cl, Tx.k_le, hf_len, ?_⟩
    rw [hp_le]
    refine q t _ ?_ ⟨dx, upd_same⟩ ?_ ?_
    · cases e : H t with
      | none => rfl
      | some ob => rw [o1 _ _ e (by simpa using npt.symm)] at ht; cases ht
    · rw [upd_ne npt.symm, upd_same]
    · intro b u e n
      have nb : b ≠ p := by simpa using n
      rw [upd_ne nb, upd_ne (ne_of_none (o1 _ _ e n) ht)]; exact o1 _ _ e n
theorem scRest : FnScope ["self", "state"] ["self", "state"] (defScope (cH 12)) := ⟨rfl, rfl, rfl, by decide +kernel, rfl, by decide +kernel, by decide +kernel⟩
theorem ok_rest (F : Fun K "_rest" "Host._rest" (cH 12) f fd) (Tx : HT5 K mg C) : FnOk P wd K mg base CX0 1 f fd ["self", "state"] (spRest C) := by
  refine F.ok scRest (fun vs H Q E h => ?_) (fun cdv A outer s H vs Q E hr h => ?_)
  · obtain ⟨p, h, x, rfl, _⟩ := h
    rfl
  · obtain ⟨p, h, x, rfl, ⟨dx, hp⟩, q⟩ := h
    refine ⟨_, (pss_cons (ps_fld (pv 0) (pv 1) rfl)
      (pss_one (ps_fld (pv 0) pe_non rfl))), ?_⟩
    refine ⟨_, rfl, _, rfl, p, C, dx, _, rfl, hp, Tx.cl, Tx.k_st, hf_len, ?_⟩
    rw [hp_st]
    refine ⟨_, rfl, p, C, dx, _, rfl, upd_same, Tx.cl, Tx.k_le, hf_len, ?_⟩
    rw [hp_le, upd_upd]
    exact q _ ⟨dx, upd_same⟩ (Off.upd (by simp))
theorem scKey : FnScope ["self", "namespace"] ["self", "namespace"] (defScope (cH 4)) := ⟨rfl, rfl, rfl, by decide +kernel, rfl, by decide +kernel, by decide +kernel⟩
theorem ok_key (F : Fun K "key" "Host.key" (cH 4) f fd) (Tx : HT5 K mg C) : FnOk P wd K mg base CX0 1 f fd ["self", "namespace"] (spKey C) := by
  refine F.ok scKey (fun vs H Q E h => ?_) (fun cdv A outer s H vs Q E hr h => ?_)
  · obtain ⟨p, h, k, kvs, rfl, _⟩ := h
    rfl
  · obtain ⟨p, h, k, kvs, rfl, ⟨dx, hp⟩, hk, q⟩ := h
    refine ⟨_, (pss_one (ps_ret (pe_dget1 (hu_of hr) (pe_fld (pv 0) rfl) (pv 1) ⟨rfl, rfl, rfl, rfl⟩))), ?_⟩
    exact ⟨_, rfl, p, C, dx, _, _, rfl, hp, Tx.cl, Tx.k_ke, hf_ke, _, rfl, .inl ⟨kvs, .inl hk⟩, _, rfl, _, dget hk, q⟩
theorem scKF : FnScope ["self", "command"] ["self", "command"] (defScope (cH 9)) := ⟨rfl, rfl, rfl, by decide +kernel, rfl, by decide +kernel, by decide +kernel⟩
theorem ok_kf (F : Fun K "_key_for" "Host._key_for" (cH 9) f fd) (Tx : HT5 K mg C) (Mky : Mth P wd K mg base CX0 C "key" 1 ["self", "namespace"] (spKey C) f1 fd1) : FnOk P wd K mg base CX0 2 f fd ["self", "command"] (spKF K C) := by
  refine F.ok scKF (fun vs H Q E h => ?_) (fun cdv A outer s H vs Q E hr h => ?_)
  · obtain ⟨p, h, cv, w, r, kvs, rfl, _⟩ := h
    rfl
  · obtain ⟨p, h, cv, w, r, kvs, rfl, ⟨dx, hp⟩, ⟨a, rfl, hc, hm⟩, hk, q⟩ := h
    refine ⟨_, (pss_cons (ps_if (pt_cmpR op_in_seq (pe_ix ix_tup (pv 1) pe_int (fun _ _ => rfl)) (pe_tup (pa_cons pe_str (pa_cons pe_str (pa_cons pe_str pa_nil)))) (by rfl))
      (pss_one (ps_ret pe_non)) pss_nil)
      (pss_one (ps_ret (pe_meth (pv 0) Tx.cl Mky.me Mky.ok hr Mky.bd .nil pass0 (pa_cons (pe_ix ix_tup (pv 1) pe_int (fun _ _ => rfl)) pa_nil))))), ?_⟩
    refine ⟨_, rfl, a, _, _, _, rfl, rfl, hc, atI_nat (j := 0) rfl, by show 3 ≤ sizeLine; decide, fun t ht => ?_⟩
    generalize hH1 : upd H t _ = H1
    have s1 : Same H H1 := by rw [← hH1]; exact same_new ht
    have ht1 : H1 t = some (.tup ((["make", "register", "flush"] : List Str).map V.str)) := by rw [← hH1]; exact upd_same
    refine ⟨t, _, rfl, .inr (SqT.of ht1), rfl, flat_strs, _, rfl, ?_⟩
    rw [inV_str]
    have q1 := q H1 s1
    unfold keyFor at q1
    cases e : strIn w ["make", "register", "flush"] with
    | true => rw [e] at q1; exact iteT q1
    | false =>
      rw [e] at q1
      obtain ⟨r', rfl⟩ := cmd_two hm (.inl (by rw [e]; decide))
      refine iteF ⟨_, rfl, p, dx, _, rfl, s1 _ _ hp, hf_no (by decide +kernel), _, rfl, a, _, _, _, rfl, rfl, SqT_same s1 hc, atI_nat (j := 1) rfl, nil_ ⟨p, h, 2, kvs, rfl, ⟨dx, s1 _ _ hp⟩, s1 _ _ hk, q1⟩⟩
theorem scBC : FnScope ["self", "command"] ["self", "command"] (defScope (cH 8)) := ⟨rfl, rfl, rfl, by decide +kernel, rfl, by decide +kernel, by decide +kernel⟩
theorem ok_bc (F : Fun K "_begin_command" "Host._begin_command" (cH 8) f fd) (Tx : HT5 K mg C) (Mkf : Mth P wd K mg base CX0 C "_key_for" 2 ["self", "command"] (spKF K C) f1 fd1) : FnOk P wd K mg base CX0 3 f fd ["self", "command"] (spBC K C) := by
  refine F.ok scBC (fun vs H Q E h => ?_) (fun cdv A outer s H vs Q E hr h => ?_)
  · obtain ⟨p, h, cv, w, r, kvs, rfl, _⟩ := h
    rfl
  · obtain ⟨p, h, cv, w, r, kvs, rfl, ⟨dx, hp⟩, hcv, hk, q⟩ := h
    refine ⟨_, (pss_cons (ps_fldaug (pv 0) pe_int in_add)
      (pss_cons (ps_fld (pv 0) pe_str rfl)
      (pss_cons (ps_fld (pv 0) (pe_fld (pv 0) rfl) rfl)
      (pss_cons (ps_fld (pv 0) (pv 1) rfl)
      (pss_one (ps_fld (pv 0) (pe_tup (pa_cons pe_str (pa_cons (pe_fld (pv 0) rfl) (pa_cons (pe_fld (pv 0) rfl) (pa_cons (pe_fld (pv 0) rfl) (pa_cons (pe_meth (pv 0) Tx.cl Mkf.me Mkf.ok hr Mkf.bd .nil pass0 (pa_cons (pv 1) pa_nil)) (pa_cons (pv 1) pa_nil))))))) rfl)))))), ?_⟩
    refine ⟨_, rfl, p, C, _, _, _, rfl, hp, Tx.cl, Tx.k_c, hf_c, _, _, rfl, rfl, _, _, hp, hf_len, ?_⟩
    rw [hp_c]
    refine ⟨_, rfl, p, C, dx, _, rfl, upd_same, Tx.cl, Tx.k_st, hf_len, ?_⟩
    rw [hp_st, upd_upd]
    refine ⟨_, rfl, p, C, dx, _, _, rfl, upd_same, Tx.cl, Tx.k_c, hf_c, _, rfl, p, C, dx, _, rfl, upd_same, Tx.cl, Tx.k_be, hf_len, ?_⟩
    rw [hp_be, upd_upd]
    refine ⟨_, rfl, _, rfl, p, C, dx, _, rfl, upd_same, Tx.cl, Tx.k_cm, hf_len, ?_⟩
    rw [hp_cm, upd_upd]
    generalize hH1 : upd H p (.ins C dx _) = H1
    have hp1 : H1 p = some (.ins C dx ({h with c := h.c + 1, st := "waiting", be := h.c + 1, cm := cv} : HR).f) := by rw [← hH1]; exact upd_same
    have o1 : Off [p] H H1 := by rw [← hH1]; exact Off.upd (by simp)
    have npk : h.ke ≠ p := ne_of hk hp (by intro z; cases z)
    refine ⟨_, rfl, p, C, dx, _, _, rfl, hp1, Tx.cl, Tx.k_n, hf_n, _, rfl, p, C, dx, _, _, rfl, hp1, Tx.cl, Tx.k_s, hf_s, _, rfl, p, C, dx, _, _, rfl, hp1, Tx.cl, Tx.k_c, hf_c, ?_⟩
    refine ⟨_, rfl, p, dx, _, rfl, hp1, hf_no (by decide +kernel), _, rfl, p, _, cv, w, r, kvs, rfl, ⟨dx, hp1⟩, hcv.tk (tk_ins o1 hp), o1 _ _ hk (by simpa using npk), fun H2 s2 => ?_⟩
    have hp2 := s2 _ _ hp1
    refine ⟨_, rfl, by show 6 ≤ sizeLine; decide, fun t ht => ?_⟩
    have npt : p ≠ t := ne_of_none hp2 ht
    refine ⟨_, rfl, p, C, dx, _, rfl, (by rw [upd_ne npt]; exact hp2), Tx.cl, Tx.k_le, hf_len, ?_⟩
    rw [hp_le]
    have o2 : Off [p] H H2 := o1.trans (Off.of s2)
    refine q t _ ?_ ⟨dx, upd_same⟩ ?_ ?_
    · cases e : H t with
      | none => rfl
      | some ob => rw [o2 _ _ e (by simpa using npt.symm)] at ht; cases ht
    · rw [upd_ne npt.symm, upd_same]
    · intro b u e n
      have nb : b ≠ p := by simpa using n
      rw [upd_ne nb, upd_ne (ne_of_none (o2 _ _ e n) ht)]; exact o2 _ _ e n
theorem scBegin : FnScope ["self", "command"] ["self", "command"] (defScope (cH 1)) := ⟨rfl, rfl, rfl, by decide +kernel, rfl, by decide +kernel, by decide +kernel⟩
theorem ok_begin (F : Fun K "begin" "Host.begin" (cH 1) f fd) (Tx : HT5 K mg C) (Mbs : Mth P wd K mg base CX0 C "_begin_session" 1 ["self"] (spBS C) f1 fd1) (Mbc : Mth P wd K mg base CX0 C "_begin_command" 3 ["self", "command"] (spBC K C) f2 fd2) :
    FnOk P wd K mg base CX0 4 f fd ["self", "command"] (spBegin K C) := by
  refine F.ok scBegin (fun vs H Q E h => ?_) (fun cdv A outer s H vs Q E hr h => ?_)
  · obtain ⟨p, h, cv, w, r, kvs, rfl, _⟩ := h
    rfl
  · obtain ⟨p, h, cv, w, r, kvs, rfl, ⟨dx, hp⟩, hcv, hk, q1, q2, q3⟩ := h
    have hr1 : Room 1 _ := hr.mono (by decide)
    refine ⟨_, (pss_cons (ps_if (pt_cmpR op_eq (pe_fld (pv 0) rfl) pe_str (nomark _))
      (pss_one (ps_expr (pe_meth0 (pv 0) Tx.cl Mbs.me Mbs.ok hr1 Mbs.bd .nil pass0))) (pss_one (ps_if (pt_cmpR op_eq (pe_fld (pv 0) rfl) pe_str (nomark _))
      (pss_one (ps_expr (pe_meth (pv 0) Tx.cl Mbc.me Mbc.ok hr Mbc.bd .nil pass0 (pa_cons (pv 1) pa_nil)))) (pss_one (ps_ret pe_non)))))
      (pss_one (ps_ret (pe_fld (pv 0) rfl)))), ?_⟩
    refine ⟨_, rfl, p, C, dx, _, _, rfl, hp, Tx.cl, Tx.k_st, hf_st, rfl, _, rfl, ?_⟩
    by_cases e1 : h.st = "new"
    · rw [e1, str_eqT]
      refine iteT ⟨_, rfl, p, dx, _, rfl, hp, hf_no (by decide +kernel), p, h, rfl, ⟨dx, hp⟩, fun t H' ht hA hl o => ?_⟩
      obtain ⟨dx', hp'⟩ := hA
      exact ⟨_, rfl, p, C, dx', _, _, rfl, hp', Tx.cl, Tx.k_le, hf_le, q1 e1 t H' ht ⟨dx', hp'⟩ hl o⟩
    rw [str_eqF e1]
    refine iteF ⟨_, rfl, p, C, dx, _, _, rfl, hp, Tx.cl, Tx.k_st, hf_st, rfl, _, rfl, ?_⟩
    by_cases e2 : h.st = "idle"
    · rw [e2, str_eqT]
      refine iteT ⟨_, rfl, p, dx, _, rfl, hp, hf_no (by decide +kernel), _, rfl, p, h, cv, w, r, kvs, rfl, ⟨dx, hp⟩, hcv, hk, fun t H' ht hA hl o => ?_⟩
      obtain ⟨dx', hp'⟩ := hA
      exact ⟨_, rfl, p, C, dx', _, _, rfl, hp', Tx.cl, Tx.k_le, hf_le, q2 e2 t H' ht ⟨dx', hp'⟩ hl o⟩
    rw [str_eqF e2]
    exact iteF (q3 e1 e2)
theorem scAgain : FnScope ["self"] ["self"] (defScope (cH 2)) := ⟨rfl, rfl, rfl, by decide +kernel, rfl, by decide +kernel, by decide +kernel⟩
theorem ok_again (F : Fun K "again" "Host.again" (cH 2) f fd) (Tx : HT5 K mg C) : FnOk P wd K mg base CX0 1 f fd ["self"] (spAgain C) := by
  refine F.ok scAgain (fun vs H Q E h => ?_) (fun cdv A outer s H vs Q E hr h => ?_)
  · obtain ⟨p, h, rfl, _⟩ := h
    rfl
  · obtain ⟨p, h, rfl, ⟨dx, hp⟩, q⟩ := h
    refine ⟨_, (pss_one (ps_ret (pe_fld (pv 0) rfl))), ?_⟩
    exact ⟨_, rfl, p, C, dx, _, _, rfl, hp, Tx.cl, Tx.k_le, hf_le, q⟩
theorem scEnded : FnScope ["self"] ["self"] (defScope (cH 5)) := ⟨rfl, rfl, rfl, by decide +kernel, rfl, by decide +kernel, by decide +kernel⟩
theorem ok_ended (F : Fun K "ended" "Host.ended" (cH 5) f fd) (Tx : HT5 K mg C) (B : BB5 mg) : FnOk P wd K mg base CX0 1 f fd ["self"] (spEnded C) := by
  refine F.ok scEnded (fun vs H Q E h => ?_) (fun cdv A outer s H vs Q E hr h => ?_)
  · obtain ⟨p, h, xs, rfl, _⟩ := h
    rfl
  · obtain ⟨p, h, xs, rfl, ⟨dx, hp⟩, hl, q⟩ := h
    refine ⟨_, (pss_one (ps_ret (pe_callTy call_list_of (by rfl) B.list (by decide +kernel) (pa_cons (pe_fld (pv 0) rfl) pa_nil)))), ?_⟩
    exact ⟨_, rfl, p, C, dx, _, _, rfl, hp, Tx.cl, Tx.k_en, hf_en, _, _, rfl, .inl (SqL.of hl), q⟩
theorem scLost : FnScope ["self"] ["self"] (defScope (cH 6)) := ⟨rfl, rfl, rfl, by decide +kernel, rfl, by decide +kernel, by decide +kernel⟩
theorem ok_lost (F : Fun K "lost" "Host.lost" (cH 6) f fd) (Tx : HT5 K mg C) (B : BB5 mg) : FnOk P wd K mg base CX0 1 f fd ["self"] (spLost C) := by
  refine F.ok scLost (fun vs H Q E h => ?_) (fun cdv A outer s H vs Q E hr h => ?_)
  · obtain ⟨p, h, xs, rfl, _⟩ := h
    rfl
  · obtain ⟨p, h, xs, rfl, ⟨dx, hp⟩, hl, q⟩ := h
    refine ⟨_, (pss_one (ps_ret (pe_callTy call_list_of (by rfl) B.list (by decide +kernel) (pa_cons (pe_fld (pv 0) rfl) pa_nil)))), ?_⟩
    exact ⟨_, rfl, p, C, dx, _, _, rfl, hp, Tx.cl, Tx.k_lo, hf_lo, _, _, rfl, .inl (SqL.of hl), q⟩
theorem scEnd : FnScope ["self", "answer", "command"] ["self", "answer"] (defScope (cH 14)) := ⟨rfl, rfl, rfl, by decide +kernel, rfl, by decide +kernel, by decide +kernel⟩
theorem ok_end (F : Fun K "_end" "Host._end" (cH 14) f fd) (Tx : HT5 K mg C) : FnOk P wd K mg base CX0 1 f fd ["self", "answer"] (spEnd K C) := by
  refine F.ok scEnd (fun vs H Q E h => ?_) (fun cdv A outer s H vs Q E hr h => ?_)
  · obtain ⟨p, h, w, r, av, aw, ax, kvs, es, rfl, _⟩ := h
    rfl
  · obtain ⟨p, h, w, r, av, aw, ax, kvs, es, rfl, ⟨dx, hp⟩, hcm, hav, hk, n1, he, n2, q⟩ := h
    refine ⟨_, (pss_cons (ps_set (i := 2) scEnd.nd rfl (Or.inl rfl) (pe_fld (pv 0) rfl))
      (pss_cons (ps_fld (pv 0) pe_non rfl)
      (pss_cons (ps_expr (pe_bm PySem.F.plainAttrs_list PySem.F.slot_list_append PySem.F.type_list_append mt_append (pe_fld (pv 0) rfl) (pa_cons (pe_tup (pa_cons (pe_fld (pv 0) rfl) (pa_cons (pe_fld (pv 0) rfl) (pa_cons (pv 2) (pa_cons (pv 1) pa_nil))))) pa_nil)))
      (pss_cons (ps_if (pt_cmpR op_ne (pe_ix ix_tup (pv 1) pe_int (fun _ _ => rfl)) pe_str (nomark _))
      (pss_one ps_retN) pss_nil)
      (pss_one (ps_if (pt_cmpR op_eq (pe_ix ix_tup (pv 2) pe_int (fun _ _ => rfl)) pe_str (nomark _))
      (pss_one (ps_dput (hu_of hr) (pe_fld (pv 0) rfl) (pe_ix ix_tup (pv 2) pe_int (fun _ _ => rfl)) (pe_ix ix_tup (pv 1) pe_int (fun _ _ => rfl)) rfl)) (pss_one (ps_if (pt_cmpR op_in_seq (pe_ix ix_tup (pv 2) pe_int (fun _ _ => rfl)) (pe_tup (pa_cons pe_str (pa_cons pe_str pa_nil))) (by rfl))
      (pss_one (ps_expr (pe_dpop2 (pe_fld (pv 0) rfl) (pe_ix ix_tup (pv 2) pe_int (fun _ _ => rfl)) pe_non ⟨rfl, rfl, rfl, rfl⟩))) pss_nil)))))))), ?_⟩
    have npk : h.ke ≠ p := ne_of hk hp (by intro z; cases z)
    have npe : h.en ≠ p := ne_of he hp (by intro z; cases z)
    have nek : h.en ≠ h.ke := ne_of he hk (by intro z; cases z)
    refine ⟨_, rfl, p, C, dx, _, _, rfl, hp, Tx.cl, Tx.k_cm, hf_cm, _, rfl, p, C, dx, _, rfl, hp, Tx.cl, Tx.k_cm, hf_len, ?_⟩
    rw [hp_cm]
    generalize hH1 : upd H p (.ins C dx _) = H1
    have hp1 : H1 p = some (.ins C dx ({h with cm := .non} : HR).f) := by rw [← hH1]; exact upd_same
    have o1 : Off [p] H H1 := by rw [← hH1]; exact Off.upd (by simp)
    have tk1 := tk_ins o1 hp
    have he1 : H1 h.en = some (.lst es) := o1 _ _ he (by simpa using npe)
    have hk1 : H1 h.ke = some (.dK kvs) := o1 _ _ hk (by simpa using npk)
    -- self._ended.append((..))
    refine ⟨_, rfl, p, C, dx, _, _, rfl, hp1, Tx.cl, Tx.k_en, hf_en, .inl ⟨rfl, _, SqL.of he1⟩, _, rfl, p, C, dx, _, _, rfl, hp1, Tx.cl, Tx.k_co, hf_co, _, rfl, p, C, dx, _, _, rfl, hp1, Tx.cl, Tx.k_be, hf_be, _, rfl, _, rfl, by show 4 ≤ sizeLine; decide, fun t ht => ?_⟩
    have s2 := same_new (o := .tup [.int h.co, .int h.be, h.cm, av]) ht
    have ht2 : (upd H1 t (.tup [.int h.co, .int h.be, h.cm, av])) t = some (.tup [.int h.co, .int h.be, h.cm, av]) := upd_same
    have htH : H t = none := by
      cases e : H t with
      | none => rfl
      | some ob =>
        by_cases z : t = p
        · rw [z, hp1] at ht; cases ht
        · rw [o1 _ _ e (by simpa using z)] at ht; cases ht
    refine nil_ ⟨_, _, _, rfl, rfl, s2 _ _ he1, small1000 (by omega), ?_⟩
    have he2 := s2 _ _ he1
    generalize hH3 : upd (upd H1 t (.tup [.int h.co, .int h.be, h.cm, av])) h.en (.lst (es ++ [.ref t])) = H3
    have o3 : Off [p, h.en, h.ke] H H3 := fun b u e n => by
      simp only [List.mem_cons, List.not_mem_nil, or_false, not_or] at n
      rw [← hH3, upd_ne n.2.1]; exact s2 _ _ (o1 _ _ e (by simpa using n.1))
    have tk3 : TK H H3 := by
      refine (tk1.trans (TK.of s2)).trans ?_
      rw [← hH3]
      exact TK.off (xs := [h.en]) (Off.upd (by simp)) fun x hx => by rw [List.mem_singleton.mp hx]; exact .inl ⟨_, he2⟩
    have hp3 : H3 p = some (.ins C dx ({h with cm := .non} : HR).f) := by rw [← hH3, upd_ne npe.symm]; exact s2 _ _ hp1
    have hk3 : H3 h.ke = some (.dK kvs) := by rw [← hH3, upd_ne nek.symm]; exact s2 _ _ hk1
    have he3 : H3 h.en = some (.lst (es ++ [.ref t])) := by rw [← hH3, upd_same]
    have nte : t ≠ h.en := (ne_of_none he1 ht).symm
    have ht3 : H3 t = some (.tup [.int h.co, .int h.be, h.cm, av]) := by rw [← hH3, upd_ne nte]; exact ht2
    have hfin : ∀ kv' H4, Same H3 H4 → keysA kvs w aw ax = kv' → Q .non (upd H4 h.ke (.dK kv')) := fun kv' H4 s4 ek => by
      have hk4 := s4 _ _ hk3
      refine q t _ htH ⟨dx, by rw [upd_ne npk.symm]; exact s4 _ _ hp3⟩ (by rw [upd_ne nek]; exact s4 _ _ he3) (by rw [upd_ne (ne_of (s4 _ _ ht3) hk4 (by intro z; cases z))]; exact s4 _ _ ht3) (by rw [ek, upd_same]) ?_ ?_
      · intro b u e n
        have n' := n
        simp only [List.mem_cons, List.not_mem_nil, or_false, not_or] at n'
        rw [upd_ne n'.2.2]; exact s4 _ _ (o3 _ _ e n)
      · exact (tk3.trans (TK.of s4)).trans (TK.off (xs := [h.ke]) (Off.upd (by simp)) fun x hx => by rw [List.mem_singleton.mp hx]; exact .inr ⟨_, hk4⟩)
    have hstay : ∀ H4, Same H3 H4 → keysA kvs w aw ax = kvs → Q .non H4 := fun H4 s4 ek => q t H4 htH ⟨dx, s4 _ _ hp3⟩ (s4 _ _ he3) (s4 _ _ ht3) (by rw [ek]; exact s4 _ _ hk3) (o3.trans (Off.of s4)) (tk3.trans (TK.of s4))
    obtain ⟨aa, rfl, ha, _, _⟩ := hav.tk tk3
    obtain ⟨ca, ec, hc, hm⟩ := hcm.tk tk3
    -- if answer[0] != "ok": return
    refine ⟨_, rfl, aa, _, _, _, rfl, rfl, ha, atI_nat (j := 0) rfl, rfl, _, rfl, ?_⟩
    unfold keysA at hfin hstay
    by_cases e1 : aw = "ok"
    · rw [if_pos e1] at hfin hstay
      rw [e1, str_eqT]
      rw [ec]
      refine iteF ⟨_, rfl, ca, _, _, _, rfl, rfl, hc, atI_nat (j := 0) rfl, rfl, _, rfl, ?_⟩
      by_cases e2 : w = "register"
      · obtain ⟨r', rfl⟩ := cmd_two hm (.inr (.inl e2))
        rw [if_pos e2] at hfin
        rw [e2, str_eqT]
        exact iteT ⟨_, rfl, aa, _, _, _, rfl, rfl, ha, atI_nat (j := 1) rfl, _, rfl, p, C, dx, _, _, rfl, hp3, Tx.cl, Tx.k_ke, hf_ke, _, rfl, ca, _, _, _, rfl, rfl, hc, atI_nat (j := 1) rfl, h.ke, _, rfl, DPut.k (k := Sum.inl 2) hk3 (small1000 (by omega)), hfin _ _ (Same.refl H3) rfl⟩
      · rw [if_neg e2] at hfin hstay
        rw [str_eqF e2]
        refine iteF ⟨_, rfl, ca, _, _, _, rfl, rfl, hc, atI_nat (j := 0) rfl, by show 2 ≤ sizeLine; decide, fun t2 ht2 => ?_⟩
        have s4 := same_new (o := .tup [.str "leave", .str "remove"]) ht2
        refine ⟨t2, _, rfl, .inr (SqT.of upd_same), rfl, rfl, _, rfl, ?_⟩
        have ei : inV (.str w) [.str "leave", .str "remove"] = strIn w ["leave", "remove"] := inV_str (ns := ["leave", "remove"])
        rw [ei]
        cases e3 : strIn w ["leave", "remove"] with
        | true =>
          obtain ⟨r', rfl⟩ := cmd_two hm (.inr (.inr e3))
          rw [if_pos e3] at hfin hstay
          exact iteT ⟨_, rfl, p, C, dx, _, _, rfl, s4 _ _ hp3, Tx.cl, Tx.k_ke, hf_ke, _, rfl, .inl ⟨kvs, .inl (s4 _ _ hk3)⟩, _, rfl, ca, _, _, _, rfl, rfl, SqT_same s4 hc, atI_nat (j := 1) rfl, kvs, Sum.inl 2, s4 _ _ hk3, rfl, (fun v _ => hfin _ _ s4 rfl), fun hn => hstay _ s4 (drop_none hn)⟩
        | false =>
          rw [if_neg (by rw [e3]; decide)] at hstay
          exact iteF (hstay _ s4 rfl)
    · rw [if_neg e1] at hstay
      rw [str_eqF e1]
      exact iteT (hstay _ (Same.refl H3) rfl)
end
end Sg

set_option Elab.async false
set_option linter.all false
set_option maxRecDepth 100000
set_option maxHeartbeats 4000000
namespace Sg
open PySem PySem.Spec PyProof.Rows L2
/-! ### data of tuples alone -/
mutual
def tupO : PyData → Bool
  | .none => true
  | .bool _ => true
  | .int _ => true
  | .str _ => true
  | .tuple ds => tupOs ds
  | _ => false
def tupOs : List PyData → Bool
  | [] => true
  | d :: ds => tupO d && tupOs ds
end
mutual
theorem dp_tk {K : PySem.W.Frag} {H H' : Hp} (s : TK H H') : ∀ (d : PyData) (x : V), tupO d = true → Dp K H x d → Dp K H' x d
  | .none, _, _, h => by cases h; exact .non
  | .bool _, _, _, h => by cases h; exact .bl _
  | .int _, _, _, h => by cases h; exact .int _
  | .str _, _, _, h => by cases h; exact .str _
  | .tuple ds, _, g, h => by
    have g' : tupOs ds = true := by simpa [tupO] using g
    cases h with
    | tup hs ha => exact .tup (sqT_tk hs s) (dpAll_tk s ds _ g' ha)
  | .list ds, _, g, _ => by simp [tupO] at g
  | .dict _, _, _, h => by cases h
theorem dpAll_tk {K : PySem.W.Frag} {H H' : Hp} (s : TK H H') : ∀ (ds : List PyData) (xs : List V), tupOs ds = true → DpAll K H xs ds → DpAll K H' xs ds
  | [], _, _, h => by cases h; exact .nil
  | d :: ds, _, g, h => by
    have g' : tupO d = true ∧ tupOs ds = true := by simpa [tupOs] using g
    cases h with
    | cons a b => exact .cons (dp_tk s d _ g'.1 a) (dpAll_tk s ds _ g'.2 b)
end
/-- good data: tuples alone, of a small depth -/
structure GD (n : Nat) (d : PyData) : Prop where
  t : tupO d = true
  l : d.canLay0 = true
  dp : d.depth ≤ n
theorem GD.sh {n : Nat} {d : PyData} (h : GD n d) (hn : n ≤ 64) : SeqAt.shaped d = true := shaped_of h.l (Nat.le_trans h.dp hn)
theorem GD.mono {n m : Nat} {d : PyData} (h : GD n d) (hn : n ≤ m) : GD m d := ⟨h.t, h.l, Nat.le_trans h.dp hn⟩
theorem gd_none {n : Nat} : GD n .none := ⟨rfl, by simp [PyData.canLay0], by simp [PyData.depth]⟩
theorem gd_int {n : Nat} {i : Int} : GD n (.int i) := ⟨rfl, by simp [PyData.canLay0], by simp [PyData.depth]⟩
theorem gd_tup3 {n : Nat} {a b c : PyData} (ha : GD n a) (hb : GD n b) (hc : GD n c) : GD (n + 1) (.tuple [a, b, c]) := by
  refine ⟨?_, ?_, ?_⟩
  · simp [tupO, tupOs, ha.t, hb.t, hc.t]
  · simp [PyData.canLay0, PyData.canLayAll0, ha.l, hb.l, hc.l]
  · have := ha.dp; have := hb.dp; have := hc.dp
    simp only [PyData.depth, PyData.depthAll]; omega
theorem gd_tup4 {n : Nat} {a b c d : PyData} (ha : GD n a) (hb : GD n b) (hc : GD n c) (hd : GD n d) : GD (n + 1) (.tuple [a, b, c, d]) := by
  refine ⟨?_, ?_, ?_⟩
  · simp [tupO, tupOs, ha.t, hb.t, hc.t, hd.t]
  · simp [PyData.canLay0, PyData.canLayAll0, ha.l, hb.l, hc.l, hd.l]
  · have := ha.dp; have := hb.dp; have := hc.dp; have := hd.dp
    simp only [PyData.depth, PyData.depthAll]; omega
theorem gd_tup2 {n : Nat} {a b : PyData} (ha : GD n a) (hb : GD n b) : GD (n + 1) (.tuple [a, b]) := by
  refine ⟨?_, ?_, ?_⟩
  · simp [tupO, tupOs, ha.t, hb.t]
  · simp [PyData.canLay0, PyData.canLayAll0, ha.l, hb.l]
  · have := ha.dp; have := hb.dp
    simp only [PyData.depth, PyData.depthAll]; omega
theorem gd_list1 {n : Nat} {a : PyData} (ha : GD n a) (hn : n ≤ 60) : SeqAt.shaped (.list [a]) = true := by
  refine shaped_of ?_ ?_
  · simp [PyData.canLay0, PyData.canLayAll0, ha.l]
  · have := ha.dp
    simp only [PyData.depth, PyData.depthAll]; omega
end Sg

set_option Elab.async false
set_option linter.all false
set_option maxRecDepth 100000
set_option maxHeartbeats 4000000
namespace Sg
open PySem PySem.Spec PyProof.Rows L2
abbrev sComp : Stmt := cH 13
abbrev Td := Option (Int × Int × V)
def TdV (K : PySem.W.Frag) (H : Hp) (v : V) : Td → Prop
  | none => v = .non
  | some (a, b, x) => ∃ q av, v = .ref q ∧ SqT K H q [.int a, .int b, av] ∧ AnsV K H av "ok" x
def lasting (td : Td) (co : Int) : Int := match td with
  | none => 0
  | some (a, b, _) => if a = co then b else 0
def ansW (td : Td) (co be : Int) : Str × V := if be ≤ lasting td co then ("ok", match td with | none => .non | some (_, _, x) => x) else ("lost", .non)
def lostD (co las be : Int) : List PyData := (List.range (be - las).toNat).map fun i => .tuple [.int co, .int (las + 1 + ((i : Nat) : Int))]
inductive Lt where
  | conn (h s : Int) (td : Td)
  | ans (h s c : Int) (aw : Str) (ax : V)
  | no (h s x : Int) (w : Str)
def LtV (K : PySem.W.Frag) (H : Hp) (v : V) : Lt → Prop
  | .conn h s td => ∃ a tv, v = .ref a ∧ SqT K H a [.str "connected", .int h, .int s, tv, .int 9] ∧ TdV K H tv td
  | .ans h s c aw ax => ∃ a av, v = .ref a ∧ SqT K H a [.str "answer", .int h, .int s, .int c, av, .int 9] ∧ AnsV K H av aw ax
  | .no h s x w => ∃ a, v = .ref a ∧ SqT K H a [.str "no", .int h, .int s, .int x, .str w, .int 2]
theorem TdV.tk {K : PySem.W.Frag} {H H' : Hp} {v : V} {td : Td} (h : TdV K H v td) (s : TK H H') : TdV K H' v td := by
  cases td with
  | none => exact h
  | some x =>
    obtain ⟨a, b, x⟩ := x
    obtain ⟨q, av, e, h1, h2⟩ := h
    exact ⟨q, av, e, sqT_tk h1 s, h2.tk s⟩
theorem LtV.tk {K : PySem.W.Frag} {H H' : Hp} {v : V} {L : Lt} (h : LtV K H v L) (s : TK H H') : LtV K H' v L := by
  cases L with
  | conn => obtain ⟨a, tv, e, h1, h2⟩ := h; exact ⟨a, tv, e, sqT_tk h1 s, h2.tk s⟩
  | ans => obtain ⟨a, av, e, h1, h2⟩ := h; exact ⟨a, av, e, sqT_tk h1 s, h2.tk s⟩
  | no => obtain ⟨a, e, h1⟩ := h; exact ⟨a, e, sqT_tk h1 s⟩
structure Pre (K : PySem.W.Frag) (H : Hp) (h : HR) (td : Td) (ys es : List V) (kvs : KS) (w : Str) : Prop where
  lo : H h.lo = some (.lst ys)
  en : H h.en = some (.lst es)
  ke : H h.ke = some (.dK kvs)
  n1 : (ys.length : Int) + h.be ≤ 900
  n2 : 0 ≤ h.be
  n3 : 0 ≤ lasting td h.co ∧ lasting td h.co ≤ 1000
  n4 : es.length < 900
  n5 : kvs.length < 900
  cm : h.cm = .non ∨ ∃ r, CmdV K H h.cm w r ∧ 1 ≤ h.be
structure Post (K : PySem.W.Frag) (H : Hp) (p : Addr) (h : HR) (td : Td) (ys es : List V) (kvs : KS) (w : Str) (H' : Hp) (lo' : Addr) : Prop where
  new : H lo' = none
  lst : ∃ zs, H' lo' = some (.lst (ys ++ zs)) ∧ DpAll K H' zs (lostD h.co (lasting td h.co) h.be) ∧ zs.length = (h.be - lasting td h.co).toNat
  off : Off [p, h.en, h.ke] H H'
  tk : TK H H'
  cm : (h.cm = .non ∧ H' h.en = some (.lst es) ∧ H' h.ke = some (.dK kvs)) ∨ (h.cm ≠ .non ∧ ∃ t av aw ax, H' h.en = some (.lst (es ++ [.ref t])) ∧ H' t = some (.tup [.int h.co, .int h.be, h.cm, av]) ∧ AnsV K H' av aw ax ∧ (aw, ax) = ansW td h.co h.be ∧ H' h.ke = some (.dK (keysA kvs w aw ax)))
def spComp (K : PySem.W.Frag) (C : Addr) : Sp := fun vs H Q _ => ∃ p h tv td ys es kvs w, vs = [.ref p, tv] ∧ HAt C H p h ∧ TdV K H tv td ∧ Pre K H h td ys es kvs w ∧ ∀ lo' H', HAt C H' p {h with lo := lo', cm := .non} → Post K H p h td ys es kvs w H' lo' → Q .non H'
inductive Oc where
  | no
  | nw
  | con (td : Td)
  | ended (aw : Str) (ax : V)
  | lost
def ocC (h : HR) : Lt → Oc
  | .conn hh s td => if hh = h.n ∧ s = h.s then .con td else .no
  | .no hh s x w => if hh = h.n ∧ s = h.s ∧ x = 0 ∧ w = "old" then .nw else .no
  | .ans _ _ _ _ _ => .no
def ocW (h : HR) : Lt → Oc
  | .conn _ _ _ => .no
  | .no hh s x w => if hh = h.n ∧ s = h.s ∧ x = h.c ∧ w = "lost" then .lost else .no
  | .ans hh s c aw ax => if hh = h.n ∧ s = h.s ∧ c = h.c then .ended aw ax else .no
def spTC (K : PySem.W.Frag) (C : Addr) : Sp := fun vs H Q _ => ∃ p h lv L, vs = [.ref p, lv] ∧ HAt C H p h ∧ LtV K H lv L ∧ (ocC h L = .no → ∀ H', Same H H' → Q (.bl false) H') ∧
  (ocC h L = .nw → ∀ t H', H t = none → HAt C H' p {h with s := h.s + 1, c := 0, st := "connecting", le := .ref t} → H' t = some (.tup [.str "connect", .int h.n, .int (h.s + 1)]) → Off [p] H H' → Q (.bl true) H') ∧
  (∀ td, ocC h L = .con td → ∃ ys es kvs w, Pre K H h td ys es kvs w ∧ ∀ lo' H', HAt C H' p {h with lo := lo', cm := .non, co := h.s, be := 0, st := "idle", le := .non} → Post K H p h td ys es kvs w H' lo' → Q (.bl true) H')
def spTW (K : PySem.W.Frag) (C : Addr) : Sp := fun vs H Q _ => ∃ p h lv L, vs = [.ref p, lv] ∧ HAt C H p h ∧ LtV K H lv L ∧ (ocW h L = .no → ∀ H', Same H H' → Q (.bl false) H') ∧
  (ocW h L = .lost → ∀ H', HAt C H' p {h with st := "new", le := .non} → Off [p] H H' → Q (.bl true) H') ∧
  (∀ aw ax, ocW h L = .ended aw ax → ∃ w r es kvs, CmdV K H h.cm w r ∧ H h.ke = some (.dK kvs) ∧ kvs.length < 900 ∧ H h.en = some (.lst es) ∧ es.length < 900 ∧
    ∀ t av H', H t = none → HAt C H' p {h with cm := .non, st := "idle", le := .non} → H' h.en = some (.lst (es ++ [.ref t])) → H' t = some (.tup [.int h.co, .int h.be, h.cm, av]) → AnsV K H' av aw ax → H' h.ke = some (.dK (keysA kvs w aw ax)) → Off [p, h.en, h.ke] H H' → TK H H' → Q (.bl true) H')
theorem eqv_pair {a b c d : Int} : PyData.eqv (.tuple [.int a, .int b]) (.tuple [.int c, .int d]) = (decide (a = c) && decide (b = d)) := by
  simp only [PyData.eqv, PyData.eqvAll]
  by_cases h1 : a = c <;> by_cases h2 : b = d <;> simp [h1, h2]
theorem eqv_three {a b c d e f : Int} : PyData.eqv (.tuple [.int a, .int b, .int c]) (.tuple [.int d, .int e, .int f]) = (decide (a = d) && (decide (b = e) && decide (c = f))) := by
  simp only [PyData.eqv, PyData.eqvAll]
  by_cases h1 : a = d <;> by_cases h2 : b = e <;> by_cases h3 : c = f <;> simp [h1, h2, h3]
theorem sh_pair {a b : Int} : SeqAt.shaped (.tuple [.int a, .int b]) = true := (gd_tup2 (n := 0) gd_int gd_int).sh (by decide)
theorem sh_three {a b c : Int} : SeqAt.shaped (.tuple [.int a, .int b, .int c]) = true := (gd_tup3 (n := 0) gd_int gd_int gd_int).sh (by decide)
theorem tupOs_lost {co las be : Int} : tupOs (lostD co las be) = true := by
  unfold lostD
  generalize (List.range (be - las).toNat) = l
  induction l with
  | nil => rfl
  | cons x l ih => simp [tupOs, tupO, ih]
theorem tupOs_take {ds : List PyData} (h : tupOs ds = true) (n : Nat) : tupOs (ds.take n) = true := by
  induction ds generalizing n with
  | nil => simp [tupOs]
  | cons d ds ih =>
    cases n with
    | zero => simp [tupOs]
    | succ n =>
      have : tupO d = true ∧ tupOs ds = true := by simpa [tupOs] using h
      simp [tupOs, this.1, ih this.2]
theorem dpAll_snoc {K : PySem.W.Frag} {H : Hp} {xs : List V} {ds : List PyData} {x : V} {d : PyData} (h : DpAll K H xs ds) (hx : Dp K H x d) : DpAll K H (xs ++ [x]) (ds ++ [d]) := by
  induction xs generalizing ds with
  | nil => cases h; exact .cons hx .nil
  | cons y ys ih => cases h with | cons a b => exact .cons a (ih b)
section
variable {P : Program} {wd : World} {K : PySem.W.Frag} {mg : Str → Option Value} {base : Heap} {f f1 f2 f3 C : Addr} {fd fd1 fd2 fd3 : FuncData}
theorem scComp : FnScope ["self", "told", "lasting", "counter"] ["self", "told"] (defScope (cH 13)) := ⟨rfl, rfl, rfl, by decide +kernel, rfl, by decide +kernel, by decide +kernel⟩
theorem ok_comp (F : Fun K "_compare" "Host._compare" (cH 13) f fd) (Tx : HT5 K mg C) (B : BB5 mg) (Men : Mth P wd K mg base CX0 C "_end" 1 ["self", "answer"] (spEnd K C) f1 fd1) : FnOk P wd K mg base CX0 2 f fd ["self", "told"] (spComp K C) := by
  refine F.ok scComp (fun vs H Q E h => ?_) (fun cdv A outer s H vs Q E hr h => ?_)
  · obtain ⟨p, h, tv, td, ys, es, kvs, w, rfl, _⟩ := h
    rfl
  · obtain ⟨p, h, tv, td, ys, es, kvs, w, rfl, ⟨dx, hp⟩, htd, R, q⟩ := h
    refine ⟨_, (pss_cons (ps_set (i := 2) scComp.nd rfl (Or.inl rfl) pe_int)
      (Evl.pss_cut (ps_if (PW.pt (pw_and (pt_cmpR op_notN (pv 1) pe_non (nomark _)) (pw_and1 (pt_cmpR op_eq (pe_ix ix_tup (pv 1) pe_int (fun _ _ => rfl)) (pe_fld (pv 0) rfl) (nomark _)))))
      (pss_one (ps_set (i := 2) scComp.nd rfl (Or.inl rfl) (pe_ix ix_tup (pv 1) pe_int (fun _ _ => rfl)))) pss_nil)
      (pss_cons (ps_fld (pv 0) (pe_op op_cat (pe_fld (pv 0) rfl) (pe_lc (own := [("counter", 3)]) (g := gName 3) (tt := tYes) (te := tTup (tCons (tFld K (tVar 0) "_connected") (tCons (tVar 3) tNil))) (by rfl) scComp.nd (pi_range2 (by rfl) B.range (pa_cons (pe_op op_add (pv 2) pe_int) (pa_cons (pe_op op_add (pe_fld (pv 0) rfl) pe_int) pa_nil))) (blkOk_by (own := [("counter", 3)]) (N := ["self", "told", "lasting", "counter"]) (sc := defScope sComp) (by decide +kernel)) (fun _ _ _ _ _ => pg_name (i := 3) scComp.nd rfl (Or.inl rfl)) (fun _ _ _ _ _ => pts_nil) (fun _ _ _ _ _ => by exact (pe_tup (pa_cons (pe_fld (pv 0) rfl) (pa_cons (pv 3) pa_nil)))))) rfl)
      (pss_one (ps_if (pt_cmpR op_notN (pe_fld (pv 0) rfl) pe_non (nomark _))
      (pss_one (ps_expr (pe_meth (pv 0) Tx.cl Men.me Men.ok hr Men.bd .nil pass0 (pa_cons (pe_ifExp (pt_cmpR op_le (pe_fld (pv 0) rfl) (pv 2) (nomark _)) (pe_ix ix_tup (pv 1) pe_int (fun _ _ => rfl)) (pe_tup (pa_cons pe_str (pa_cons pe_non pa_nil)))) pa_nil)))) pss_nil))))), ?_⟩
    refine ⟨fun σ H' => H' = H ∧ ∃ x3, σ = [some (.ref p), some tv, some (.int (lasting td h.co)), x3], ?_, ?_⟩
    · refine ⟨_, rfl, rfl, _, rfl, ?_⟩
      cases td with
      | none =>
        have e : tv = .non := htd
        subst e
        rw [show decide (V.non = V.non) = true from decide_eq_true rfl]
        exact iteF (iteF ⟨rfl, _, rfl⟩)
      | some x =>
        obtain ⟨a, b, x⟩ := x
        obtain ⟨qq, av, rfl, hq, _⟩ := htd
        rw [decide_eq_false (show ¬ V.ref qq = V.non by intro z; cases z)]
        refine iteT ⟨_, rfl, qq, _, _, _, rfl, rfl, hq, atI_nat (j := 0) rfl, _, rfl, p, C, dx, _, _, rfl, hp, Tx.cl, Tx.k_co, hf_co, rfl, _, rfl, ?_⟩
        have el : lasting (some (a, b, x)) h.co = if a = h.co then b else 0 := rfl
        rw [el]
        by_cases c : a = h.co
        · rw [decide_eq_true (show V.int a = V.int h.co by rw [c]), if_pos c]
          exact iteT ⟨_, rfl, qq, _, _, _, rfl, rfl, hq, atI_nat (j := 1) rfl, rfl, _, rfl⟩
        · rw [decide_eq_false (fun z => c (by injection z)), if_neg c]
          exact iteF ⟨rfl, _, rfl⟩
    rintro σ H' ⟨rfl, x3, rfl⟩
    generalize hlas : lasting td h.co = las
    obtain ⟨l0, l1⟩ := R.n3
    rw [hlas] at l0 l1
    have n2 := R.n2
    have n1 := R.n1
    -- self._lost + [..]
    refine ⟨_, rfl, p, C, dx, _, _, rfl, hp, Tx.cl, Tx.k_lo, hf_lo, ?_⟩
    refine ⟨_, rfl, _, _, rfl, rfl, _, rfl, p, C, dx, _, _, rfl, hp, Tx.cl, Tx.k_be, hf_be, _, _, rfl, rfl, nil_ ⟨_, _, rfl, by omega, fun D hD => ?_⟩⟩
    have en : (h.be + 1 - (las + 1)).toNat = (h.be - las).toNat := by omega
    rw [en]
    refine lc_range (lo := las + 1) (n := (h.be - las).toNat) (fun i H1 => Same H' H1 ∧ ∃ zs, H1 D = some (.lst zs) ∧ zs.length = i ∧ DpAll K H1 zs ((lostD h.co las h.be).take i)) ⟨same_new hD, [], upd_same, rfl, .nil⟩ ?_ ?_
    · rintro i H1 hi ⟨s1, zs, hz, hl, hdp⟩
      refine ⟨rfl, yesIte ?_⟩
      refine ⟨_, rfl, p, C, dx, _, _, rfl, s1 _ _ hp, Tx.cl, Tx.k_co, hf_co, _, rfl, by show 2 ≤ sizeLine; decide, fun t ht => ?_⟩
      have s2 := same_new (o := .tup [.int h.co, .int (las + 1 + (i : Int))]) ht
      have ht2 : (upd H1 t (.tup [.int h.co, .int (las + 1 + (i : Int))])) t = some (.tup [.int h.co, .int (las + 1 + (i : Int))]) := upd_same
      generalize upd H1 t (.tup [.int h.co, .int (las + 1 + (i : Int))]) = H2 at s2 ht2
      have hz2 := s2 _ _ hz
      have tk3 : TK H2 (upd H2 D (.lst (zs ++ [.ref t]))) := TK.off (xs := [D]) (Off.upd (by simp)) fun x hx => by rw [List.mem_singleton.mp hx]; exact .inl ⟨_, hz2⟩
      refine ⟨zs, hz2, small1000 (by omega), ?_, zs ++ [.ref t], upd_same, by rw [List.length_append, hl]; rfl, ?_⟩
      · intro b u e
        rw [upd_ne (ne_of_none e hD)]; exact s2 _ _ (s1 _ _ e)
      · have hge : (lostD h.co las h.be)[i]? = some (.tuple [.int h.co, .int (las + 1 + (i : Int))]) := by
          unfold lostD
          rw [List.getElem?_map, List.getElem?_range hi]; rfl
        rw [List.take_add_one, hge]
        refine dpAll_snoc ?_ (.tup (SqT.of (tk3.t _ _ ht2)) (.cons (.int _) (.cons (.int _) .nil)))
        exact dpAll_tk tk3 _ _ (tupOs_take tupOs_lost i) (dpAll_same s2 _ _ hdp)
    rintro H1 ⟨s1, zs, hz, hl, hdp⟩
    rw [List.take_of_length_le (by unfold lostD; rw [List.length_map, List.length_range]; exact Nat.le_refl _)] at hdp
    refine ⟨h.lo, D, _, _, rfl, rfl, s1 _ _ R.lo, hz, Nat.le_of_lt (small1000 (by omega)), fun lo' hlo' => ?_⟩
    have s2 := same_new (o := .lst (ys ++ zs)) hlo'
    have hlo2 : (upd H1 lo' (.lst (ys ++ zs))) lo' = some (.lst (ys ++ zs)) := upd_same
    generalize upd H1 lo' (.lst (ys ++ zs)) = H2 at s2 hlo2
    have s02 := s1.trans s2
    have hp2 := s02 _ _ hp
    have hnew : H' lo' = none := s1.free hlo'
    have npl : p ≠ lo' := ne_of_none hp hnew
    refine ⟨_, rfl, p, C, dx, _, rfl, hp2, Tx.cl, Tx.k_lo, hf_len, ?_⟩
    rw [hp_lo]
    generalize hH3 : upd H2 p (.ins C dx _) = H3
    have hp3 : H3 p = some (.ins C dx ({h with lo := lo'} : HR).f) := by rw [← hH3]; exact upd_same
    have o3 : Off [p] H2 H3 := by rw [← hH3]; exact Off.upd (by simp)
    have tk3 := tk_ins o3 hp2
    have o03 : Off [p, h.en, h.ke] H' H3 := fun b u e n => o3 _ _ (s02 _ _ e) (by simp at n; simp [n])
    have tk03 : TK H' H3 := (TK.of s02).trans tk3
    have npe : h.en ≠ p := ne_of R.en hp (by intro z; cases z)
    have npk : h.ke ≠ p := ne_of R.ke hp (by intro z; cases z)
    have he3 : H3 h.en = some (.lst es) := o3 _ _ (s02 _ _ R.en) (by simpa using npe)
    have hk3 : H3 h.ke = some (.dK kvs) := o3 _ _ (s02 _ _ R.ke) (by simpa using npk)
    have hlo3 : H3 lo' = some (.lst (ys ++ zs)) := o3 _ _ hlo2 (by simpa using npl.symm)
    have hdp3 : DpAll K H3 zs (lostD h.co las h.be) := dpAll_tk tk3 _ _ tupOs_lost (dpAll_same s2 _ _ hdp)
    -- if self._command is not None
    refine ⟨_, rfl, p, C, dx, _, _, rfl, hp3, Tx.cl, Tx.k_cm, hf_cm, rfl, _, rfl, ?_⟩
    rcases R.cm with ec | ⟨r, hcm, hbe⟩
    · rw [show decide (({h with lo := lo'} : HR).cm = V.non) = true from decide_eq_true ec]
      refine iteF (q lo' H3 ⟨dx, ?_⟩ ⟨hnew, ⟨zs, hlo3, by rw [hlas]; exact hdp3, by rw [hlas]; exact hl⟩, o03, tk03, .inl ⟨ec, he3, hk3⟩⟩)
      have : ({h with lo := lo', cm := .non} : HR) = {h with lo := lo'} := by rw [← ec]
      rw [this]; exact hp3
    · obtain ⟨ca, eca, _⟩ := id hcm
      have ncm : h.cm ≠ .non := by rw [eca]; intro z; cases z
      rw [show decide (({h with lo := lo'} : HR).cm = V.non) = false from decide_eq_false ncm]
      refine iteT ⟨_, rfl, p, dx, _, rfl, hp3, hf_no (by decide +kernel), ?_⟩
      refine ⟨_, rfl, p, C, dx, _, _, rfl, hp3, Tx.cl, Tx.k_be, hf_be, _, rfl, _, _, rfl, rfl, _, rfl, ?_⟩
      have fin : ∀ (av : V) (aw : Str) (ax : V) (H4 : Hp), Same H3 H4 → AnsV K H4 av aw ax → (aw, ax) = ansW td h.co h.be → spEnd K C [.ref p, av] H4 (fun _ H5 => Q .non H5) E0 := by
        intro av aw ax H4 s4 hav hw
        refine ⟨p, _, w, r, av, aw, ax, kvs, es, rfl, ⟨dx, s4 _ _ hp3⟩, hcm.tk (tk03.trans (TK.of s4)), hav, s4 _ _ hk3, R.n5, s4 _ _ he3, R.n4, fun t H5 ht hA he5 ht5 hk5 o5 tk5 => ?_⟩
        refine q lo' H5 hA ⟨hnew, ⟨zs, ?_, by rw [hlas]; exact dpAll_tk ((TK.of s4).trans tk5) _ _ tupOs_lost hdp3, by rw [hlas]; exact hl⟩, (o03.trans (Off.of s4)).trans o5, (tk03.trans (TK.of s4)).trans tk5, .inr ⟨ncm, t, av, aw, ax, he5, ht5, hav.tk tk5, hw, hk5⟩⟩
        refine o5 _ _ (s4 _ _ hlo3) ?_
        have n3 : lo' ≠ h.en := fun e => by rw [e, R.en] at hnew; cases hnew
        have n4 : lo' ≠ h.ke := fun e => by rw [e, R.ke] at hnew; cases hnew
        simp [npl.symm, n3, n4]
      by_cases cb : h.be ≤ las
      · rw [decide_eq_true cb]
        cases td with
        | none =>
          have : las = 0 := hlas.symm
          omega
        | some x =>
          obtain ⟨a, b, x⟩ := x
          obtain ⟨qq, av, rfl, hq, hav⟩ := htd
          refine iteT ⟨_, rfl, qq, _, _, _, rfl, rfl, sqT_tk hq tk03, atI_nat (j := 2) rfl, nil_ (fin av "ok" x H3 (Same.refl H3) (hav.tk tk03) ?_)⟩
          unfold ansW
          rw [hlas, if_pos cb]
      · rw [decide_eq_false cb]
        refine iteF ⟨by show 2 ≤ sizeLine; decide, fun t ht => nil_ (fin (.ref t) "lost" .non _ (same_new ht) ⟨t, rfl, SqT.of upd_same, by decide +kernel, .inl rfl⟩ ?_)⟩
        unfold ansW
        rw [hlas, if_neg cb]
end
end Sg

set_option Elab.async false
set_option linter.all false
set_option maxRecDepth 100000
set_option maxHeartbeats 4000000
namespace Sg
open PySem PySem.Spec PyProof.Rows L2
section
variable {P : Program} {wd : World} {K : PySem.W.Frag} {mg : Str → Option Value} {base : Heap} {f f1 f2 f3 C : Addr} {fd fd1 fd2 fd3 : FuncData}
theorem scTC : FnScope ["self", "letter", "host", "number", "told"] ["self", "letter"] (defScope (cH 10)) := ⟨rfl, rfl, rfl, by decide +kernel, rfl, by decide +kernel, by decide +kernel⟩
theorem ok_tc (F : Fun K "_take_connecting" "Host._take_connecting" (cH 10) f fd) (Tx : HT5 K mg C) (Mco : Mth P wd K mg base CX0 C "_compare" 2 ["self", "told"] (spComp K C) f1 fd1) (Mre : Mth P wd K mg base CX0 C "_rest" 1 ["self", "state"] (spRest C) f2 fd2) (Mbs : Mth P wd K mg base CX0 C "_begin_session" 1 ["self"] (spBS C) f3 fd3) :
    FnOk P wd K mg base CX0 3 f fd ["self", "letter"] (spTC K C) := by
  refine F.ok scTC (fun vs H Q E h => ?_) (fun cdv A outer s H vs Q E hr h => ?_)
  · obtain ⟨p, h, lv, L, rfl, _⟩ := h
    rfl
  · obtain ⟨p, h, lv, L, rfl, ⟨dx, hp⟩, hL, q1, q2, q3⟩ := h
    have hr1 : Room 1 _ := hr.mono (by decide)
    refine ⟨_, (pss_cons (ps_match (pv 1) (pcs_guard scTC.nd (mp_seq (n := 5) rfl (mps_cons mp_str (mps_cons (mp_cap (i := 2) rfl (Or.inl rfl)) (mps_cons (mp_cap (i := 3) rfl (Or.inl rfl)) (mps_cons (mp_cap (i := 4) rfl (Or.inl rfl)) (mps_cons mp_wild mps_nil)))))) (pt_cmpR (op_eqD hr.units) (pe_tup (pa_cons (pv 2) (pa_cons (pv 3) pa_nil))) (pe_tup (pa_cons (pe_fld (pv 0) rfl) (pa_cons (pe_fld (pv 0) rfl) pa_nil))) (nomark _))
        (pss_cons (ps_expr (pe_meth (pv 0) Tx.cl Mco.me Mco.ok hr Mco.bd .nil pass0 (pa_cons (pv 4) pa_nil)))
      (pss_cons (ps_fld (pv 0) (pe_fld (pv 0) rfl) rfl)
      (pss_cons (ps_fld (pv 0) pe_int rfl)
      (pss_cons (ps_expr (pe_meth (pv 0) Tx.cl Mre.me Mre.ok hr1 Mre.bd .nil pass0 (pa_cons pe_str pa_nil)))
      (pss_one (ps_ret pe_bl))))))
        (pcs_guard scTC.nd (mp_seq (n := 6) rfl (mps_cons mp_str (mps_cons (mp_cap (i := 2) rfl (Or.inl rfl)) (mps_cons (mp_cap (i := 3) rfl (Or.inl rfl)) (mps_cons mp_int (mps_cons mp_str (mps_cons mp_wild mps_nil))))))) (pt_cmpR (op_eqD hr.units) (pe_tup (pa_cons (pv 2) (pa_cons (pv 3) pa_nil))) (pe_tup (pa_cons (pe_fld (pv 0) rfl) (pa_cons (pe_fld (pv 0) rfl) pa_nil))) (nomark _))
        (pss_cons (ps_expr (pe_meth0 (pv 0) Tx.cl Mbs.me Mbs.ok hr1 Mbs.bd .nil pass0))
      (pss_one (ps_ret pe_bl)))
        pcs_nil)))
      (pss_one (ps_ret pe_bl))), ?_⟩
    cases L with
    | conn hh ss td =>
      obtain ⟨a, tv, rfl, ha, htd⟩ := hL
      refine ⟨_, rfl, a, _, rfl, ha, fun _ => ?_, fun z => absurd rfl z⟩
      refine ⟨_, _, rfl, _, rfl, ?_⟩
      rw [if_pos rfl]
      refine ⟨_, _, rfl, _, _, rfl, _, _, rfl, _, _, rfl, ?_⟩
      refine ⟨_, rfl, _, rfl, by show 2 ≤ sizeLine; decide, fun t1 ht1 => ⟨_, rfl, p, C, dx, _, _, rfl, (same_new ht1) _ _ hp, Tx.cl, Tx.k_n, hf_n, _, rfl, p, C, dx, _, _, rfl, (same_new ht1) _ _ hp, Tx.cl, Tx.k_s, hf_s, by show 2 ≤ sizeLine; decide, fun t2 ht2 => ?_⟩⟩
      have s1 := same_new (o := .tup [.int hh, .int ss]) ht1
      have s2 := same_new (o := .tup [.int h.n, .int h.s]) ht2
      refine ⟨_, _, .tup (SqT.of (s2 _ _ upd_same)) (.cons (.int _) (.cons (.int _) .nil)), .tup (SqT.of upd_same) (.cons (.int _) (.cons (.int _) .nil)), sh_pair, sh_pair, _, rfl, ?_⟩
      rw [eqv_pair]
      have s12 := s1.trans s2
      generalize upd (upd H t1 (.tup [.int hh, .int ss])) t2 (.tup [.int h.n, .int h.s]) = H2 at s12
      have hp2 := s12 _ _ hp
      by_cases c : hh = h.n ∧ ss = h.s
      · have eo : ocC h (.conn hh ss td) = .con td := if_pos c
        rw [decide_eq_true c.1, decide_eq_true c.2]
        obtain ⟨ys, es, kvs, w, R, q⟩ := q3 td eo
        have R2 : Pre K H2 h td ys es kvs w := ⟨s12 _ _ R.lo, s12 _ _ R.en, s12 _ _ R.ke, R.n1, R.n2, R.n3, R.n4, R.n5, R.cm.imp id fun ⟨r, z, zz⟩ => ⟨r, z.tk (TK.of s12), zz⟩⟩
        refine iteT ⟨_, rfl, p, dx, _, rfl, hp2, hf_no (by decide +kernel), _, rfl, p, h, tv, td, ys, es, kvs, w, rfl, ⟨dx, hp2⟩, htd.tk (TK.of s12), R2, fun lo' H3 hA hP => ?_⟩
        obtain ⟨dx3, hp3⟩ := hA
        -- self._connected = self.session; self._begun = 0
        refine ⟨_, rfl, p, C, dx3, _, _, rfl, hp3, Tx.cl, Tx.k_s, hf_s, _, rfl, p, C, dx3, _, rfl, hp3, Tx.cl, Tx.k_co, hf_len, ?_⟩
        rw [hp_co]
        refine ⟨_, rfl, p, C, dx3, _, rfl, upd_same, Tx.cl, Tx.k_be, hf_len, ?_⟩
        rw [hp_be, upd_upd]
        generalize hH4 : upd H3 p (.ins C dx3 _) = H4
        have hp4 : H4 p = some (.ins C dx3 ({h with lo := lo', cm := .non, co := h.s, be := 0} : HR).f) := by rw [← hH4]; exact upd_same
        have o4 : Off [p] H3 H4 := by rw [← hH4]; exact Off.upd (by simp)
        refine ⟨_, rfl, p, dx3, _, rfl, hp4, hf_no (by decide +kernel), p, _, "idle", rfl, ⟨dx3, hp4⟩, fun H5 hA5 o5 => ?_⟩
        have npk : h.ke ≠ p := ne_of R.ke hp (by intro z; cases z)
        have npe : h.en ≠ p := ne_of R.en hp (by intro z; cases z)
        have npl : lo' ≠ p := fun e => by have := hP.new; rw [e, hp2] at this; cases this
        have o35 : Off [p] H3 H5 := o4.trans o5
        have tk35 := tk_ins o35 hp3
        have hnew : H lo' = none := s12.free hP.new
        refine q lo' H5 hA5 ⟨hnew, ?_, ?_, ((TK.of s12).trans hP.tk).trans tk35, ?_⟩
        · obtain ⟨zs, z1, z2, z3⟩ := hP.lst
          exact ⟨zs, o35 _ _ z1 (by simpa using npl), dpAll_tk tk35 _ _ tupOs_lost z2, z3⟩
        · intro b u e n
          exact o35 _ _ (hP.off _ _ (s12 _ _ e) n) (by simp at n; simp [n])
        · rcases hP.cm with ⟨z1, z2, z3⟩ | ⟨z1, t, av, aw, ax, z2, z3, z4, z5, z6⟩
          · exact .inl ⟨z1, o35 _ _ z2 (by simpa using npe), o35 _ _ z3 (by simpa using npk)⟩
          · exact .inr ⟨z1, t, av, aw, ax, o35 _ _ z2 (by simpa using npe), tk35.t _ _ z3, z4.tk tk35, z5, o35 _ _ z6 (by simpa using npk)⟩
      · have eo : ocC h (.conn hh ss td) = .no := if_neg c
        have e : (decide (hh = h.n) && decide (ss = h.s)) = false := by
          rw [Bool.and_eq_false_iff, decide_eq_false_iff_not, decide_eq_false_iff_not]
          by_cases z : hh = h.n
          · exact .inr fun w => c ⟨z, w⟩
          · exact .inl z
        rw [e]
        exact iteF ⟨a, _, rfl, SqT_same s12 ha, fun z => (by cases z), fun _ => q1 eo H2 s12⟩
    | ans hh ss cc aw ax =>
      obtain ⟨a, av, rfl, ha, hav⟩ := hL
      refine ⟨_, rfl, a, _, rfl, ha, fun z => (by cases z), fun _ => ⟨a, _, rfl, ha, fun _ => ?_, fun z => absurd rfl z⟩⟩
      refine ⟨_, _, rfl, _, rfl, ?_⟩
      rw [if_neg (by decide)]
      exact q1 rfl H (Same.refl H)
    | no hh ss x w =>
      obtain ⟨a, rfl, ha⟩ := hL
      refine ⟨_, rfl, a, _, rfl, ha, fun z => (by cases z), fun _ => ⟨a, _, rfl, ha, fun _ => ?_, fun z => absurd rfl z⟩⟩
      refine ⟨_, _, rfl, _, rfl, ?_⟩
      rw [if_pos rfl]
      refine ⟨_, _, rfl, _, _, rfl, _, _, rfl, _, rfl, ?_⟩
      by_cases c1 : x = 0
      · rw [if_pos c1]
        refine ⟨_, _, rfl, _, rfl, ?_⟩
        by_cases c2 : w = "old"
        · rw [if_pos c2]
          refine ⟨_, _, rfl, ?_⟩
          refine ⟨_, rfl, _, rfl, by show 2 ≤ sizeLine; decide, fun t1 ht1 => ⟨_, rfl, p, C, dx, _, _, rfl, (same_new ht1) _ _ hp, Tx.cl, Tx.k_n, hf_n, _, rfl, p, C, dx, _, _, rfl, (same_new ht1) _ _ hp, Tx.cl, Tx.k_s, hf_s, by show 2 ≤ sizeLine; decide, fun t2 ht2 => ?_⟩⟩
          have s1 := same_new (o := .tup [.int hh, .int ss]) ht1
          have s2 := same_new (o := .tup [.int h.n, .int h.s]) ht2
          refine ⟨_, _, .tup (SqT.of (s2 _ _ upd_same)) (.cons (.int _) (.cons (.int _) .nil)), .tup (SqT.of upd_same) (.cons (.int _) (.cons (.int _) .nil)), sh_pair, sh_pair, _, rfl, ?_⟩
          rw [eqv_pair]
          have s12 := s1.trans s2
          generalize upd (upd H t1 (.tup [.int hh, .int ss])) t2 (.tup [.int h.n, .int h.s]) = H2 at s12
          have hp2 := s12 _ _ hp
          by_cases c : hh = h.n ∧ ss = h.s
          · have eo : ocC h (.no hh ss x w) = .nw := if_pos ⟨c.1, c.2, c1, c2⟩
            rw [decide_eq_true c.1, decide_eq_true c.2]
            refine iteT ⟨_, rfl, p, dx, _, rfl, hp2, hf_no (by decide +kernel), p, h, rfl, ⟨dx, hp2⟩, fun t H3 ht hA ht3 o3 => ?_⟩
            exact q2 eo t H3 (s12.free ht) hA ht3 fun b u e n => o3 _ _ (s12 _ _ e) n
          · have eo : ocC h (.no hh ss x w) = .no := if_neg fun z => c ⟨z.1, z.2.1⟩
            have e : (decide (hh = h.n) && decide (ss = h.s)) = false := by
              rw [Bool.and_eq_false_iff, decide_eq_false_iff_not, decide_eq_false_iff_not]
              by_cases z : hh = h.n
              · exact .inr fun w => c ⟨z, w⟩
              · exact .inl z
            rw [e]
            exact iteF (q1 eo H2 s12)
        · rw [if_neg c2]
          exact q1 (if_neg fun z => c2 z.2.2.2) H (Same.refl H)
      · rw [if_neg c1]
        exact q1 (if_neg fun z => c1 z.2.2.1) H (Same.refl H)
theorem scTW : FnScope ["self", "letter", "present", "host", "session", "counter", "answer"] ["self", "letter"] (defScope (cH 11)) := ⟨rfl, rfl, rfl, by decide +kernel, rfl, by decide +kernel, by decide +kernel⟩
theorem ok_tw (F : Fun K "_take_waiting" "Host._take_waiting" (cH 11) f fd) (Tx : HT5 K mg C) (Men : Mth P wd K mg base CX0 C "_end" 1 ["self", "answer"] (spEnd K C) f1 fd1) (Mre : Mth P wd K mg base CX0 C "_rest" 1 ["self", "state"] (spRest C) f2 fd2) :
    FnOk P wd K mg base CX0 2 f fd ["self", "letter"] (spTW K C) := by
  refine F.ok scTW (fun vs H Q E h => ?_) (fun cdv A outer s H vs Q E hr h => ?_)
  · obtain ⟨p, h, lv, L, rfl, _⟩ := h
    rfl
  · obtain ⟨p, h, lv, L, rfl, ⟨dx, hp⟩, hL, q1, q2, q3⟩ := h
    refine ⟨_, (pss_cons (ps_set (i := 2) scTW.nd rfl (Or.inl rfl) (pe_tup (pa_cons (pe_fld (pv 0) rfl) (pa_cons (pe_fld (pv 0) rfl) (pa_cons (pe_fld (pv 0) rfl) pa_nil)))))
      (pss_cons (ps_match (pv 1) (pcs_guard scTW.nd (mp_seq (n := 6) rfl (mps_cons mp_str (mps_cons (mp_cap (i := 3) rfl (Or.inl rfl)) (mps_cons (mp_cap (i := 4) rfl (Or.inl rfl)) (mps_cons (mp_cap (i := 5) rfl (Or.inl rfl)) (mps_cons (mp_cap (i := 6) rfl (Or.inl rfl)) (mps_cons mp_wild mps_nil))))))) (pt_cmpR (op_eqD hr.units) (pe_tup (pa_cons (pv 3) (pa_cons (pv 4) (pa_cons (pv 5) pa_nil)))) (pv 2) (nomark _))
        (pss_cons (ps_expr (pe_meth (pv 0) Tx.cl Men.me Men.ok hr Men.bd .nil pass0 (pa_cons (pv 6) pa_nil)))
      (pss_cons (ps_expr (pe_meth (pv 0) Tx.cl Mre.me Mre.ok hr Mre.bd .nil pass0 (pa_cons pe_str pa_nil)))
      (pss_one (ps_ret pe_bl))))
        (pcs_guard scTW.nd (mp_seq (n := 6) rfl (mps_cons mp_str (mps_cons (mp_cap (i := 3) rfl (Or.inl rfl)) (mps_cons (mp_cap (i := 4) rfl (Or.inl rfl)) (mps_cons (mp_cap (i := 5) rfl (Or.inl rfl)) (mps_cons mp_str (mps_cons mp_wild mps_nil))))))) (pt_cmpR (op_eqD hr.units) (pe_tup (pa_cons (pv 3) (pa_cons (pv 4) (pa_cons (pv 5) pa_nil)))) (pv 2) (nomark _))
        (pss_cons (ps_expr (pe_meth (pv 0) Tx.cl Mre.me Mre.ok hr Mre.bd .nil pass0 (pa_cons pe_str pa_nil)))
      (pss_one (ps_ret pe_bl)))
        pcs_nil)))
      (pss_one (ps_ret pe_bl)))), ?_⟩
    refine ⟨_, rfl, p, C, dx, _, _, rfl, hp, Tx.cl, Tx.k_n, hf_n, _, rfl, p, C, dx, _, _, rfl, hp, Tx.cl, Tx.k_s, hf_s, _, rfl, p, C, dx, _, _, rfl, hp, Tx.cl, Tx.k_c, hf_c, by show 3 ≤ sizeLine; decide, fun tp htp => ?_⟩
    have s0 := same_new (o := .tup [.int h.n, .int h.s, .int h.c]) htp
    have ht0 : (upd H tp (.tup [.int h.n, .int h.s, .int h.c])) tp = some (.tup [.int h.n, .int h.s, .int h.c]) := upd_same
    generalize upd H tp (.tup [.int h.n, .int h.s, .int h.c]) = H0 at s0 ht0
    cases L with
    | conn hh ss td =>
      obtain ⟨a, tv, rfl, ha, htd⟩ := hL
      exact ⟨_, rfl, a, _, rfl, SqT_same s0 ha, fun z => (by cases z), fun _ => ⟨a, _, rfl, SqT_same s0 ha, fun z => (by cases z), fun _ => q1 rfl H0 s0⟩⟩
    | ans hh ss cc aw ax =>
      obtain ⟨a, av, rfl, ha, hav⟩ := hL
      refine ⟨_, rfl, a, _, rfl, SqT_same s0 ha, fun _ => ?_, fun z => absurd rfl z⟩
      refine ⟨_, _, rfl, _, rfl, ?_⟩
      rw [if_pos rfl]
      refine ⟨_, _, rfl, _, _, rfl, _, _, rfl, _, _, rfl, _, _, rfl, ?_⟩
      refine ⟨_, rfl, _, rfl, _, rfl, by show 3 ≤ sizeLine; decide, fun t1 ht1 => ?_⟩
      have s1 := same_new (o := .tup [.int hh, .int ss, .int cc]) ht1
      refine ⟨_, rfl, _, _, .tup (SqT.of upd_same) (.cons (.int _) (.cons (.int _) (.cons (.int _) .nil))), .tup (SqT.of (s1 _ _ ht0)) (.cons (.int _) (.cons (.int _) (.cons (.int _) .nil))), sh_three, sh_three, _, rfl, ?_⟩
      rw [eqv_three]
      have s12 := s0.trans s1
      generalize upd H0 t1 (.tup [.int hh, .int ss, .int cc]) = H2 at s1 s12
      have hp2 := s12 _ _ hp
      by_cases c : hh = h.n ∧ ss = h.s ∧ cc = h.c
      · have eo : ocW h (.ans hh ss cc aw ax) = .ended aw ax := if_pos c
        rw [decide_eq_true c.1, decide_eq_true c.2.1, decide_eq_true c.2.2]
        obtain ⟨w, r, es, kvs, hcm, hk, nk, he, ne, q⟩ := q3 aw ax eo
        refine iteT ⟨_, rfl, p, dx, _, rfl, hp2, hf_no (by decide +kernel), _, rfl, p, h, w, r, av, aw, ax, kvs, es, rfl, ⟨dx, hp2⟩, hcm.tk (TK.of s12), hav.tk (TK.of s12), s12 _ _ hk, nk, s12 _ _ he, ne, fun t H3 ht hA he3 ht3 hk3 o3 tk3 => ?_⟩
        obtain ⟨dx3, hp3⟩ := hA
        refine ⟨_, rfl, p, dx3, _, rfl, hp3, hf_no (by decide +kernel), p, _, "idle", rfl, ⟨dx3, hp3⟩, fun H5 hA5 o5 => ?_⟩
        have tk5 := tk_ins o5 hp3
        have npk : h.ke ≠ p := ne_of hk hp (by intro z; cases z)
        have npe : h.en ≠ p := ne_of he hp (by intro z; cases z)
        refine q t av H5 (s12.free ht) hA5 (o5 _ _ he3 (by simpa using npe)) (tk5.t _ _ ht3) ((hav.tk (TK.of s12)).tk (tk3.trans tk5)) (o5 _ _ hk3 (by simpa using npk)) (fun b u e n => o5 _ _ (o3 _ _ (s12 _ _ e) n) (by simp at n; simp [n])) (((TK.of s12).trans tk3).trans tk5)
      · have eo : ocW h (.ans hh ss cc aw ax) = .no := if_neg c
        have e : (decide (hh = h.n) && (decide (ss = h.s) && decide (cc = h.c))) = false := by
          rw [Bool.eq_false_iff]
          intro z
          rw [Bool.and_eq_true, Bool.and_eq_true, decide_eq_true_eq, decide_eq_true_eq, decide_eq_true_eq] at z
          exact c z
        rw [e]
        refine iteF ⟨a, _, rfl, SqT_same s12 ha, fun _ => ?_, fun z => absurd rfl z⟩
        refine ⟨_, _, rfl, _, rfl, ?_⟩
        rw [if_neg (by decide)]
        exact q1 eo H2 s12
    | no hh ss x w =>
      obtain ⟨a, rfl, ha⟩ := hL
      refine ⟨_, rfl, a, _, rfl, SqT_same s0 ha, fun _ => ?_, fun z => absurd rfl z⟩
      refine ⟨_, _, rfl, _, rfl, ?_⟩
      rw [if_neg (by decide)]
      refine ⟨a, _, rfl, SqT_same s0 ha, fun _ => ?_, fun z => absurd rfl z⟩
      refine ⟨_, _, rfl, _, rfl, ?_⟩
      rw [if_pos rfl]
      refine ⟨_, _, rfl, _, _, rfl, _, _, rfl, _, _, rfl, _, rfl, ?_⟩
      by_cases c2 : w = "lost"
      · rw [if_pos c2]
        refine ⟨_, _, rfl, ?_⟩
        refine ⟨_, rfl, _, rfl, _, rfl, by show 3 ≤ sizeLine; decide, fun t1 ht1 => ?_⟩
        have s1 := same_new (o := .tup [.int hh, .int ss, .int x]) ht1
        refine ⟨_, rfl, _, _, .tup (SqT.of upd_same) (.cons (.int _) (.cons (.int _) (.cons (.int _) .nil))), .tup (SqT.of (s1 _ _ ht0)) (.cons (.int _) (.cons (.int _) (.cons (.int _) .nil))), sh_three, sh_three, _, rfl, ?_⟩
        rw [eqv_three]
        have s12 := s0.trans s1
        generalize upd H0 t1 (.tup [.int hh, .int ss, .int x]) = H2 at s1 s12
        have hp2 := s12 _ _ hp
        by_cases c : hh = h.n ∧ ss = h.s ∧ x = h.c
        · have eo : ocW h (.no hh ss x w) = .lost := if_pos ⟨c.1, c.2.1, c.2.2, c2⟩
          rw [decide_eq_true c.1, decide_eq_true c.2.1, decide_eq_true c.2.2]
          exact iteT ⟨_, rfl, p, dx, _, rfl, hp2, hf_no (by decide +kernel), p, h, "new", rfl, ⟨dx, hp2⟩, fun H3 hA3 o3 => q2 eo H3 hA3 fun b u e n => o3 _ _ (s12 _ _ e) n⟩
        · have eo : ocW h (.no hh ss x w) = .no := if_neg fun z => c ⟨z.1, z.2.1, z.2.2.1⟩
          have e : (decide (hh = h.n) && (decide (ss = h.s) && decide (x = h.c))) = false := by
            rw [Bool.eq_false_iff]
            intro z
            rw [Bool.and_eq_true, Bool.and_eq_true, decide_eq_true_eq, decide_eq_true_eq, decide_eq_true_eq] at z
            exact c z
          rw [e]
          exact iteF (q1 eo H2 s12)
      · rw [if_neg c2]
        exact q1 (if_neg fun z => c2 z.2.2.2) H0 s0
/-- what becomes of a letter -/
def oc (h : HR) (L : Lt) : Oc := if h.st = "connecting" then ocC h L else if h.st = "waiting" then ocW h L else .no
def spTake (K : PySem.W.Frag) (C : Addr) : Sp := fun vs H Q _ => ∃ p h lv L, vs = [.ref p, lv] ∧ HAt C H p h ∧ LtV K H lv L ∧ (oc h L = .no → ∀ H', Same H H' → Q (.bl false) H') ∧
  (oc h L = .nw → ∀ t H', H t = none → HAt C H' p {h with s := h.s + 1, c := 0, st := "connecting", le := .ref t} → H' t = some (.tup [.str "connect", .int h.n, .int (h.s + 1)]) → Off [p] H H' → Q (.bl true) H') ∧
  (∀ td, oc h L = .con td → ∃ ys es kvs w, Pre K H h td ys es kvs w ∧ ∀ lo' H', HAt C H' p {h with lo := lo', cm := .non, co := h.s, be := 0, st := "idle", le := .non} → Post K H p h td ys es kvs w H' lo' → Q (.bl true) H') ∧
  (oc h L = .lost → ∀ H', HAt C H' p {h with st := "new", le := .non} → Off [p] H H' → Q (.bl true) H') ∧
  (∀ aw ax, oc h L = .ended aw ax → ∃ w r es kvs, CmdV K H h.cm w r ∧ H h.ke = some (.dK kvs) ∧ kvs.length < 900 ∧ H h.en = some (.lst es) ∧ es.length < 900 ∧
    ∀ t av H', H t = none → HAt C H' p {h with cm := .non, st := "idle", le := .non} → H' h.en = some (.lst (es ++ [.ref t])) → H' t = some (.tup [.int h.co, .int h.be, h.cm, av]) → AnsV K H' av aw ax → H' h.ke = some (.dK (keysA kvs w aw ax)) → Off [p, h.en, h.ke] H H' → TK H H' → Q (.bl true) H')
theorem scTake : FnScope ["self", "letter"] ["self", "letter"] (defScope (cH 3)) := ⟨rfl, rfl, rfl, by decide +kernel, rfl, by decide +kernel, by decide +kernel⟩
theorem ok_take (F : Fun K "take" "Host.take" (cH 3) f fd) (Tx : HT5 K mg C) (Mtc : Mth P wd K mg base CX0 C "_take_connecting" 3 ["self", "letter"] (spTC K C) f1 fd1) (Mtw : Mth P wd K mg base CX0 C "_take_waiting" 2 ["self", "letter"] (spTW K C) f2 fd2) :
    FnOk P wd K mg base CX0 4 f fd ["self", "letter"] (spTake K C) := by
  refine F.ok scTake (fun vs H Q E h => ?_) (fun cdv A outer s H vs Q E hr h => ?_)
  · obtain ⟨p, h, lv, L, rfl, _⟩ := h
    rfl
  · obtain ⟨p, h, lv, L, rfl, ⟨dx, hp⟩, hL, q1, q2, q3, q4, q5⟩ := h
    have hr2 : Room 2 _ := hr.mono (by decide)
    refine ⟨_, (pss_cons (ps_if (pt_cmpR op_eq (pe_fld (pv 0) rfl) pe_str (nomark _))
      (pss_one (ps_ret (pe_meth (pv 0) Tx.cl Mtc.me Mtc.ok hr Mtc.bd .nil pass0 (pa_cons (pv 1) pa_nil)))) pss_nil)
      (pss_cons (ps_if (pt_cmpR op_eq (pe_fld (pv 0) rfl) pe_str (nomark _))
      (pss_one (ps_ret (pe_meth (pv 0) Tx.cl Mtw.me Mtw.ok hr2 Mtw.bd .nil pass0 (pa_cons (pv 1) pa_nil)))) pss_nil)
      (pss_one (ps_ret pe_bl)))), ?_⟩
    unfold oc at q1 q2 q3 q4 q5
    refine ⟨_, rfl, p, C, dx, _, _, rfl, hp, Tx.cl, Tx.k_st, hf_st, rfl, _, rfl, ?_⟩
    by_cases e1 : h.st = "connecting"
    · rw [if_pos e1] at q1 q2 q3 q4 q5
      rw [e1, str_eqT]
      exact iteT ⟨_, rfl, p, dx, _, rfl, hp, hf_no (by decide +kernel), _, rfl, p, h, lv, L, rfl, ⟨dx, hp⟩, hL, q1, q2, q3⟩
    rw [if_neg e1] at q1 q2 q3 q4 q5
    rw [str_eqF e1]
    refine iteF ⟨_, rfl, p, C, dx, _, _, rfl, hp, Tx.cl, Tx.k_st, hf_st, rfl, _, rfl, ?_⟩
    by_cases e2 : h.st = "waiting"
    · rw [if_pos e2] at q1 q2 q3 q4 q5
      rw [e2, str_eqT]
      exact iteT ⟨_, rfl, p, dx, _, rfl, hp, hf_no (by decide +kernel), _, rfl, p, h, lv, L, rfl, ⟨dx, hp⟩, hL, q1, q4, q5⟩
    rw [if_neg e2] at q1 q2 q3 q4 q5
    rw [str_eqF e2]
    exact iteF (q1 rfl H (Same.refl H))
end
end Sg

set_option Elab.async false
set_option linter.all false
set_option maxRecDepth 100000
set_option maxHeartbeats 4000000
namespace Sg
open PySem PySem.Spec PyProof.Rows L2
def TapeQ (K : PySem.W.Frag) (H : Hp) (p q : Addr) : Prop := ∃ (ns : List Int) (i : Nat) (rest seed : Int), H p = some (.lst [.ref q, .int (i : Int), .int rest, .int seed]) ∧ H q = some (.lst (ns.map V.int)) ∧ q ≠ p ∧ 0 ≤ rest ∧ 0 ≤ seed ∧ seed < 2147483647
section
variable {K : PySem.W.Frag} {H H' : Hp} {p q : Addr}
theorem TapeQ.off {xs : List Addr} (h : TapeQ K H p q) (o : Off xs H H') (n1 : p ∉ xs) (n2 : q ∉ xs) : TapeQ K H' p q := by
  obtain ⟨ns, i, rest, seed, h1, h2, h3⟩ := h
  exact ⟨ns, i, rest, seed, o _ _ h1 n1, o _ _ h2 n2, h3⟩
theorem TapeQ.same (h : TapeQ K H p q) (s : Same H H') : TapeQ K H' p q := h.off (Off.of (xs := []) s) (by simp) (by simp)
theorem TapeQ.lst (h : TapeQ K H p q) : ∃ l, H p = some (.lst l) := by
  obtain ⟨ns, i, rest, seed, h1, _⟩ := h
  exact ⟨_, h1⟩
theorem TapeQ.tk (h : TapeQ K H p q) (o : Off [p] H H') : TK H H' := TK.off o fun x hx => by
  rw [List.mem_singleton.mp hx]; exact .inl h.lst
end
def spNext (K : PySem.W.Frag) : Sp := fun vs H Q _ => ∃ (p q : Addr) (many : Int), vs = [.ref p, .int many] ∧ TapeQ K H p q ∧ 0 < many ∧ many < 1073741824 ∧ ∀ r H', 0 ≤ r → r < many → Off [p] H H' → TapeQ K H' p q → Q (.int r) H'
/-- the law's own list of what it knows -/
structure LR where
  s : Int
  cl : Int
  st : Str
  le : V
  en : Addr
  lo : Addr
  ke : Addr
  v7 : V
def LR.l (r : LR) : List V := [.int r.s, .int r.cl, .str r.st, r.le, .ref r.en, .ref r.lo, .ref r.ke, r.v7]
def LtB (mo : Int) : Lt → Prop
  | .conn _ _ (some (a, b, _)) => 1 ≤ a ∧ 0 ≤ b ∧ b ≤ mo
  | .no _ _ _ w => PyData.strOk w = true
  | _ => True
def V7 (K : PySem.W.Frag) (H : Hp) (v : V) (mo : Int) : Prop := (v = .non ∧ mo = 3) ∨ ∃ a s cm, v = .ref a ∧ SqT K H a [.int s, .int mo, cm]
theorem V7.tk {K : PySem.W.Frag} {H H' : Hp} {v : V} {mo : Int} (h : V7 K H v mo) (s : TK H H') : V7 K H' v mo := by
  rcases h with h | ⟨a, x, cm, e, h1⟩
  · exact .inl h
  · exact .inr ⟨a, x, cm, e, sqT_tk h1 s⟩
def spLetter (K : PySem.W.Frag) : Sp := fun vs H Q _ => ∃ tp q sl r mo, vs = [.ref tp, .ref sl] ∧ TapeQ K H tp q ∧ H sl = some (.lst (LR.l r)) ∧ V7 K H r.v7 mo ∧ 0 ≤ mo ∧ mo ≤ 900 ∧ sl ≠ tp ∧
  ∀ v L H', LtV K H' v L → LtB mo L → Off [tp] H H' → TapeQ K H' tp q → Q v H'
section
variable {P : Program} {wd : World} {K : PySem.W.Frag} {mg : Str → Option Value} {base : Heap} {f f1 : Addr} {fd fd1 : FuncData}
/-- one of a displayed list -/
theorem pickL {K : PySem.W.Frag} {H : Hp} {tp q l2 : Addr} {es : List V} {σ : L2.St} {Q : VK} {j : Nat} (t : TapeQ K H tp q) (hl : H l2 = none) (hpos : 0 < es.length) (hlt : es.length < 1000)
    (k : ∀ z H', z ∈ es → Off [tp] H H' → TapeQ K H' tp q → TK H H' → Q z H') (ht : ∀ (H1 : Hp) (Q1 : List V → Hp → Prop), Q1 [.ref tp, .int (es.length : Nat)] H1 → tCons (tVar j) (tCons (tC (.int (es.length : Nat))) tNil) σ H1 Q1) :
    tOp (rIxL K) (tC (.ref l2)) (tCall (spNext K) [] E0 (tCons (tVar j) (tCons (tC (.int (es.length : Nat))) tNil))) σ (upd H l2 (.lst es)) Q := by
  have s := same_new (o := .lst es) hl
  have hl' : (upd H l2 (.lst es)) l2 = some (.lst es) := upd_same
  generalize upd H l2 (.lst es) = H1 at s hl'
  have t1 := t.same s
  have n : l2 ≠ tp := fun e => by
    obtain ⟨z, hz⟩ := t.lst
    rw [e, hz] at hl; cases hl
  show tCons (tVar j) (tCons (tC (.int (es.length : Nat))) tNil) σ H1 (fun vs H2 => spNext K (vs ++ []) H2 (fun y H3 => rIxL K (.ref l2) y H3 Q) E0)
  refine ht _ _ ?_
  show spNext K [.ref tp, .int (es.length : Nat)] H1 _ _
  refine ⟨tp, q, _, rfl, t1, by omega, by omega, fun r H2 r0 r1 o2 t2 => ?_⟩
  have h2 := o2 _ _ hl' (by simpa using n)
  have o : Off [tp] H H2 := fun b u e m => o2 _ _ (s _ _ e) m
  have hj : r.toNat < es.length := by omega
  refine ⟨l2, _, _, es[r.toNat], rfl, rfl, SqL.of h2, ?_, k _ H2 (List.getElem_mem hj) o t2 ((TK.of s).trans (t1.tk o2))⟩
  have := atI_nat (List.getElem?_eq_getElem hj)
  rw [show ((r.toNat : Nat) : Int) = r by omega] at this
  exact this
theorem scNext : FnScope ["tape", "many", "rest", "cell"] ["tape", "many"] (defScope sNext) := ⟨rfl, rfl, rfl, by decide +kernel, rfl, by decide +kernel, by decide +kernel⟩
theorem ok_next (F : Fun K "_law_next" "_law_next" sNext f fd) (B : BB5 mg) : FnOk P wd K mg base CX0 1 f fd ["tape", "many"] (spNext K) := by
  refine F.ok scNext (fun vs H Q E h => ?_) (fun cdv A outer s H vs Q E hr h => ?_)
  · obtain ⟨p, q, many, rfl, _⟩ := h
    rfl
  · obtain ⟨p, q, many, rfl, ⟨ns, i, rest, seed, h1, h2, hne, hre, hs0, hs1⟩, hm0, hm1, k⟩ := h
    refine ⟨_, (pss_cons (ps_set (i := 2) scNext.nd rfl (Or.inl rfl) (pe_ix ix_list (pv 0) pe_int (fun _ _ => rfl)))
      (pss_cons (ps_if (pt_cmpR op_gt (pv 2) pe_int (nomark _))
      (pss_cons (ps_asg (pe_op op_fdiv (pv 2) (pv 1)) (pg_sub (pv 0) pe_int set_list))
      (pss_one (ps_ret (pe_op op_mod (pe_callTy call_int1 (by rfl) B.int (by decide +kernel) (pa_cons (pv 2) pa_nil)) (pv 1))))) pss_nil)
      (pss_cons (ps_set (i := 3) scNext.nd rfl (Or.inl rfl) pe_int)
      (Evl.pss_cut (ps_if (pt_cmpR op_lt (pe_ix ix_list (pv 0) pe_int (fun _ _ => rfl)) (pe_callB call_len_seq (by rfl) B.len PySem.boot_len (pa_cons (pe_ix ix_list (pv 0) pe_int (fun _ _ => rfl)) pa_nil)) (nomark _))
      (pss_cons (ps_set (i := 3) scNext.nd rfl (Or.inl rfl) (pe_callB call_abs (by rfl) B.abs (by decide +kernel) (pa_cons (pe_ix ix_list (pe_ix ix_list (pv 0) pe_int (fun _ _ => rfl)) (pe_ix ix_list (pv 0) pe_int (fun _ _ => rfl)) (fun _ _ => rfl)) pa_nil)))
      (pss_one (ps_augS (pv 0) pe_int get_list pe_int ip_add set_list))) pss_nil)
      (pss_cons (ps_if (pt_cmpR op_ge (pv 3) (pe_op op_pow pe_int pe_int) (nomark _))
      (pss_cons (ps_asg (pe_op op_fdiv (pv 3) (pv 1)) (pg_sub (pv 0) pe_int set_list))
      (pss_one (ps_ret (pe_op op_mod (pe_callTy call_int1 (by rfl) B.int (by decide +kernel) (pa_cons (pv 3) pa_nil)) (pv 1))))) pss_nil)
      (pss_cons (ps_asg (pe_op op_mod (pe_callTy call_int1 (by rfl) B.int (by decide +kernel) (pa_cons (pe_op op_add (pe_op op_add (pe_op op_mul (pe_ix ix_list (pv 0) pe_int (fun _ _ => rfl)) pe_int) (pe_op op_mul (pv 3) pe_int)) pe_int) pa_nil)) pe_int) (pg_sub (pv 0) pe_int set_list))
      (pss_one (ps_ret (pe_op op_mod (pe_callTy call_int1 (by rfl) B.int (by decide +kernel) (pa_cons (pe_op op_fdiv (pe_op op_mod (pe_op op_mul (pe_ix ix_list (pv 0) pe_int (fun _ _ => rfl)) pe_int) pe_int) pe_int) pa_nil)) (pv 1)))))))))), ?_⟩
    have keep : ∀ o, Off [p] H (upd H p o) := fun o => Off.upd (by simp)
    have h2' : ∀ o, (upd H p o) q = some (.lst (ns.map V.int)) := fun o => by rw [upd_ne hne]; exact h2
    refine ⟨_, rfl, p, _, _, _, rfl, rfl, SqL.of h1, atI_nat (j := 2) rfl, ?_⟩
    refine ⟨_, rfl, _, _, rfl, rfl, _, rfl, ?_⟩
    by_cases c0 : 0 < rest
    · rw [decide_eq_true c0]
      refine iteT ⟨_, rfl, _, rfl, _, _, rfl, rfl, ⟨hm0, hm1⟩, _, rfl, p, _, _, 2, rfl, rfl, h1, rfl, ?_⟩
      refine ⟨_, rfl, .inl ⟨_, rfl, _, rfl, _, _, rfl, rfl, hm0, ?_⟩⟩
      exact k _ _ (Int.emod_nonneg _ (by omega)) (Int.emod_lt_of_pos _ hm0) (keep _) ⟨ns, i, _, seed, upd_same, h2' _, hne, Int.ediv_nonneg hre (by omega), hs0, hs1⟩
    rw [decide_eq_false c0]
    refine iteF ?_
    have hr0 : rest = 0 := by omega
    subst hr0
    refine ⟨fun σ H' => ∃ (i' : Nat) (c : Int), σ = [some (.ref p), some (.int many), some (.int 0), some (.int c)] ∧ H' = upd H p (.lst [.ref q, .int (i' : Int), .int 0, .int seed]) ∧ 0 ≤ c, ?_, ?_⟩
    · refine ⟨_, rfl, p, _, _, _, rfl, rfl, SqL.of h1, atI_nat (j := 1) rfl, _, rfl, p, _, _, _, rfl, rfl, SqL.of h1, atI_nat (j := 0) rfl, q, _, rfl, .inl (SqL.of h2), _, _, rfl, rfl, _, rfl, ?_⟩
      rw [List.length_map]
      by_cases hi : i < ns.length
      · rw [decide_eq_true (show (i : Int) < (ns.length : Int) by omega)]
        refine iteT ⟨_, rfl, p, _, _, _, rfl, rfl, SqL.of h1, atI_nat (j := 0) rfl, _, rfl, p, _, _, _, rfl, rfl, SqL.of h1, atI_nat (j := 1) rfl, q, _, _, V.int ns[i], rfl, rfl, SqL.of h2, atI_nat (get_map (List.getElem?_eq_getElem hi)), _, rfl, ?_⟩
        refine ⟨_, rfl, p, _, 1, .int (i : Int), rfl, rfl, SqL.of h1, rfl, _, _, rfl, rfl, p, _, _, 1, rfl, rfl, h1, rfl, ?_⟩
        exact ⟨i + 1, _, rfl, rfl, by split <;> omega⟩
      · rw [decide_eq_false (show ¬ (i : Int) < (ns.length : Int) by omega)]
        refine iteF ⟨i, 0, rfl, ?_, by decide⟩
        funext b
        by_cases e : b = p
        · rw [e, upd_same, h1]
        · rw [upd_ne e]
    rintro σ H' ⟨i', c, rfl, rfl, hc0⟩
    refine ⟨_, rfl, _, _, rfl, rfl, ⟨by decide, by decide, by decide⟩, _, _, rfl, rfl, _, rfl, ?_⟩
    refine ite2 (fun _ => ?_) (fun hl => ?_)
    · refine ⟨_, rfl, _, rfl, _, _, rfl, rfl, ⟨hm0, hm1⟩, _, rfl, p, _, _, 2, rfl, rfl, upd_same, rfl, ?_⟩
      rw [upd_upd]
      refine ⟨_, rfl, .inl ⟨_, rfl, _, rfl, _, _, rfl, rfl, hm0, ?_⟩⟩
      exact k _ _ (Int.emod_nonneg _ (by omega)) (Int.emod_lt_of_pos _ hm0) (keep _) ⟨ns, i', _, seed, upd_same, h2' _, hne, Int.ediv_nonneg hc0 (by omega), hs0, hs1⟩
    · have hc1 : c < 10 ^ 18 := by
        have : ¬ ((10 : Int) ^ (18 : Int).toNat ≤ c) := fun z => hl (decide_eq_true z)
        have e : (10 : Int) ^ (18 : Int).toNat = 10 ^ 18 := rfl
        omega
      refine ⟨_, rfl, p, _, _, _, rfl, rfl, SqL.of upd_same, atI_nat (j := 3) rfl, _, _, rfl, rfl, .inl ⟨by omega, by omega⟩, _, rfl, _, _, rfl, rfl, .inr ⟨by decide, by decide⟩, _, _, rfl, rfl, _, _, rfl, rfl, .inl ⟨_, rfl, ?_⟩⟩
      refine ⟨_, _, rfl, rfl, (by show (0 : Int) < 2147483647; decide), _, rfl, p, _, _, 3, rfl, rfl, upd_same, rfl, ?_⟩
      rw [upd_upd]
      refine ⟨_, rfl, p, _, _, _, rfl, rfl, SqL.of upd_same, atI_nat (j := 3) rfl, _, _, rfl, rfl, .inr ⟨by decide, by decide⟩, _, _, rfl, rfl, (by show (0 : Int) < 2147483647; decide), _, _, rfl, rfl, ⟨by decide, by decide⟩, .inl ⟨_, rfl, ?_⟩⟩
      refine ⟨_, rfl, _, _, rfl, rfl, hm0, ?_⟩
      exact k _ _ (Int.emod_nonneg _ (by omega)) (Int.emod_lt_of_pos _ hm0) (keep _) ⟨ns, i', 0, _, upd_same, h2' _, hne, by decide, Int.emod_nonneg _ (by decide), Int.emod_lt_of_pos _ (by decide)⟩
theorem scLetter : FnScope ["tape", "state", "host", "session", "counter", "kind", "told", "most", "word"] ["tape", "state"] (defScope sLetter) := ⟨rfl, rfl, rfl, by decide +kernel, rfl, by decide +kernel, by decide +kernel⟩
theorem ok_letter (F : Fun K "_law_letter" "_law_letter" sLetter f fd) (B : BB5 mg) (GN : Def P wd K mg base CX0 "_law_next" 1 ["tape", "many"] (spNext K) f1 fd1) : FnOk P wd K mg base CX0 2 f fd ["tape", "state"] (spLetter K) := by
  refine F.ok scLetter (fun vs H Q E h => ?_) (fun cdv A outer s H vs Q E hr h => ?_)
  · obtain ⟨tp, q, sl, r, mo, rfl, _⟩ := h
    rfl
  · obtain ⟨tp, q, sl, r, mo, rfl, t0, hsl, h7, m0, m1, nsl, k⟩ := h
    refine ⟨_, (pss_cons (ps_set (i := 2) scLetter.nd rfl (Or.inl rfl) (pe_ix ix_list (pe_lst (pa_cons pe_int (pa_cons pe_int (pa_cons pe_int (pa_cons pe_int pa_nil))))) (pe_call GN.ok hr (by rfl) GN.mg GN.kp GN.bd .nil pass0 (pa_cons (pv 0) (pa_cons pe_int pa_nil))) (fun _ _ => rfl)))
      (pss_cons (ps_set (i := 3) scLetter.nd rfl (Or.inl rfl) (pe_callB (call_max2 rfl) (by rfl) B.max (by decide +kernel) (pa_cons pe_int (pa_cons (pe_op op_add (pe_ix ix_list (pv 1) pe_int (fun _ _ => rfl)) (pe_ix ix_list (pe_lst (pa_cons pe_int (pa_cons pe_int (pa_cons pe_int (pa_cons (pe_un un_neg pe_int) (pa_cons pe_int pa_nil)))))) (pe_call GN.ok hr (by rfl) GN.mg GN.kp GN.bd .nil pass0 (pa_cons (pv 0) (pa_cons pe_int pa_nil))) (fun _ _ => rfl))) pa_nil))))
      (pss_cons (ps_set (i := 4) scLetter.nd rfl (Or.inl rfl) (pe_callB (call_max2 rfl) (by rfl) B.max (by decide +kernel) (pa_cons pe_int (pa_cons (pe_op op_add (pe_ix ix_list (pv 1) pe_int (fun _ _ => rfl)) (pe_ix ix_list (pe_lst (pa_cons pe_int (pa_cons pe_int (pa_cons pe_int (pa_cons (pe_un un_neg pe_int) (pa_cons pe_int pa_nil)))))) (pe_call GN.ok hr (by rfl) GN.mg GN.kp GN.bd .nil pass0 (pa_cons (pv 0) (pa_cons pe_int pa_nil))) (fun _ _ => rfl))) pa_nil))))
      (pss_cons (ps_set (i := 5) scLetter.nd rfl (Or.inl rfl) (pe_call GN.ok hr (by rfl) GN.mg GN.kp GN.bd .nil pass0 (pa_cons (pv 0) (pa_cons pe_int pa_nil))))
      (pss_cons (ps_if (pt_cmpR op_lt (pv 5) pe_int (nomark _))
      (pss_cons (ps_set (i := 6) scLetter.nd rfl (Or.inl rfl) pe_non)
      (Evl.pss_cut (ps_if (pt_cmpR op_gt (pe_call GN.ok hr (by rfl) GN.mg GN.kp GN.bd .nil pass0 (pa_cons (pv 0) (pa_cons pe_int pa_nil))) pe_int (nomark _))
      (pss_cons (ps_set (i := 7) scLetter.nd rfl (Or.inl rfl) (pe_ifExp (pt_cmpR op_notN (pe_ix ix_list (pv 1) pe_int (fun _ _ => rfl)) pe_non (nomark _)) (pe_ix ix_tup (pe_ix ix_list (pv 1) pe_int (fun _ _ => rfl)) pe_int (fun _ _ => rfl)) pe_int))
      (pss_one (ps_set (i := 6) scLetter.nd rfl (Or.inl rfl) (pe_tup (pa_cons (pe_callB (call_max2 rfl) (by rfl) B.max (by decide +kernel) (pa_cons pe_int (pa_cons (pe_op op_sub (pe_op op_sub (pv 3) pe_int) (pe_call GN.ok hr (by rfl) GN.mg GN.kp GN.bd .nil pass0 (pa_cons (pv 0) (pa_cons pe_int pa_nil)))) pa_nil))) (pa_cons (pe_call GN.ok hr (by rfl) GN.mg GN.kp GN.bd .nil pass0 (pa_cons (pv 0) (pa_cons (pe_op op_add pe_int (pv 7)) pa_nil))) (pa_cons (pe_tup (pa_cons pe_str (pa_cons (pe_call GN.ok hr (by rfl) GN.mg GN.kp GN.bd .nil pass0 (pa_cons (pv 0) (pa_cons pe_int pa_nil))) pa_nil))) pa_nil))))))) pss_nil)
      (pss_one (ps_ret (pe_tup (pa_cons pe_str (pa_cons (pv 2) (pa_cons (pv 3) (pa_cons (pv 6) (pa_cons pe_int pa_nil)))))))))) pss_nil)
      (pss_cons (ps_if (pt_cmpR op_lt (pv 5) pe_int (nomark _))
      (pss_one (ps_ret (pe_tup (pa_cons pe_str (pa_cons (pv 2) (pa_cons (pv 3) (pa_cons (pv 4) (pa_cons (pe_ix ix_list (pe_lst (pa_cons (pe_tup (pa_cons pe_str (pa_cons pe_int pa_nil))) (pa_cons (pe_tup (pa_cons pe_str (pa_cons pe_non pa_nil))) (pa_cons (pe_tup (pa_cons pe_str (pa_cons pe_non pa_nil))) pa_nil)))) (pe_call GN.ok hr (by rfl) GN.mg GN.kp GN.bd .nil pass0 (pa_cons (pv 0) (pa_cons pe_int pa_nil))) (fun _ _ => rfl)) (pa_cons pe_int pa_nil))))))))) pss_nil)
      (pss_cons (ps_set (i := 8) scLetter.nd rfl (Or.inl rfl) (pe_ix ix_list (pe_lst (pa_cons pe_str (pa_cons pe_str (pa_cons pe_str (pa_cons pe_str pa_nil))))) (pe_call GN.ok hr (by rfl) GN.mg GN.kp GN.bd .nil pass0 (pa_cons (pv 0) (pa_cons pe_int pa_nil))) (fun _ _ => rfl)))
      (pss_one (ps_ret (pe_tup (pa_cons pe_str (pa_cons (pv 2) (pa_cons (pv 3) (pa_cons (pe_ix ix_list (pe_lst (pa_cons (pv 4) (pa_cons pe_int pa_nil))) (pe_call GN.ok hr (by rfl) GN.mg GN.kp GN.bd .nil pass0 (pa_cons (pv 0) (pa_cons pe_int pa_nil))) (fun _ _ => rfl)) (pa_cons (pv 8) (pa_cons pe_int pa_nil)))))))))))))))), ?_⟩
    have arg : ∀ {n : Nat} {xs : List (Option V)} (H1 : Hp) (Q1 : List V → Hp → Prop), Q1 [.ref tp, .int (n : Int)] H1 → tCons (tVar 0) (tCons (tC (.int (n : Int))) tNil) (some (.ref tp) :: xs) H1 Q1 := fun H1 Q1 h => ⟨_, rfl, h⟩
    -- host
    refine ⟨by show 4 ≤ sizeLine; decide, fun l1 hl1 => ?_⟩
    refine pickL (es := [.int 3, .int 3, .int 3, .int 1]) (j := 0) t0 hl1 (by decide) (by decide) (fun z1 H1 hz1 o1 t1 k1 => ?_) arg
    obtain ⟨hh, rfl⟩ : ∃ hh, z1 = .int hh := by
      simp only [List.mem_cons, List.not_mem_nil, or_false] at hz1
      rcases hz1 with rfl | rfl | rfl | rfl <;> exact ⟨_, rfl⟩
    have hsl1 := o1 _ _ hsl (by simpa using nsl)
    -- session
    refine ⟨_, rfl, sl, _, _, _, rfl, rfl, SqL.of hsl1, atI_nat (j := 0) rfl, _, rfl, by show 5 ≤ sizeLine; decide, fun l2 hl2 => ?_⟩
    refine pickL (es := [.int 0, .int 0, .int 0, .int (-1), .int 1]) (j := 0) t1 hl2 (by decide) (by decide) (fun z2 H2 hz2 o2 t2 k2 => ?_) arg
    obtain ⟨d2, rfl⟩ : ∃ hh, z2 = .int hh := by
      simp only [List.mem_cons, List.not_mem_nil, or_false] at hz2
      rcases hz2 with rfl | rfl | rfl | rfl | rfl <;> exact ⟨_, rfl⟩
    refine ⟨_, _, rfl, rfl, nil_ ⟨_, _, rfl, ?_⟩⟩
    generalize (if r.s + d2 > 1 then r.s + d2 else (1 : Int)) = ss
    have hsl2 := o2 _ _ hsl1 (by simpa using nsl)
    -- counter
    refine ⟨_, rfl, sl, _, _, _, rfl, rfl, SqL.of hsl2, atI_nat (j := 1) rfl, _, rfl, by show 5 ≤ sizeLine; decide, fun l3 hl3 => ?_⟩
    refine pickL (es := [.int 0, .int 0, .int 0, .int (-1), .int 1]) (j := 0) t2 hl3 (by decide) (by decide) (fun z3 H3 hz3 o3 t3 k3 => ?_) arg
    obtain ⟨d3, rfl⟩ : ∃ hh, z3 = .int hh := by
      simp only [List.mem_cons, List.not_mem_nil, or_false] at hz3
      rcases hz3 with rfl | rfl | rfl | rfl | rfl <;> exact ⟨_, rfl⟩
    refine ⟨_, _, rfl, rfl, nil_ ⟨_, _, rfl, ?_⟩⟩
    generalize (if r.cl + d3 > 0 then r.cl + d3 else (0 : Int)) = cc
    have hsl3 := o3 _ _ hsl2 (by simpa using nsl)
    -- kind
    refine ⟨_, rfl, tp, q, 8, rfl, t3, by decide, by decide, fun kd H4 _ _ o4 t4 => ?_⟩
    have k4 := t3.tk o4
    have hsl4 := o4 _ _ hsl3 (by simpa using nsl)
    have o04 : Off [tp] H H4 := ((o1.trans o2).trans o3).trans o4
    have h74 := h7.tk (((k1.trans k2).trans k3).trans k4)
    refine ⟨_, rfl, _, _, rfl, rfl, _, rfl, ?_⟩
    refine ite2 (fun _ => ?_) (fun _ => ?_)
    · -- told
      refine ⟨fun σ H' => ∃ (tv x7 x8 : Option V) (td : Td) (v : V), σ = [some (.ref tp), some (.ref sl), some (.int hh), some (.int ss), some (.int cc), some (.int kd), some v, x7, x8] ∧ TdV K H' v td ∧ LtB mo (.conn hh ss td) ∧ Off [tp] H H' ∧ TapeQ K H' tp q, ?_, ?_⟩
      · refine ⟨_, rfl, tp, q, 3, rfl, t4, by decide, by decide, fun r5 H5 _ _ o5 t5 => ⟨_, _, rfl, rfl, _, rfl, ?_⟩⟩
        have o05 := o04.trans o5
        refine ite2 (fun _ => ?_) (fun _ => ⟨none, _, _, none, .non, rfl, rfl, trivial, o05, t5⟩)
        have hsl5 := o5 _ _ hsl4 (by simpa using nsl)
        have h75 := h74.tk (t4.tk o5)
        -- most
        refine ⟨_, rfl, sl, _, _, _, rfl, rfl, SqL.of hsl5, atI_nat (j := 7) rfl, rfl, _, rfl, ?_⟩
        have fin : ∀ (D : Ends) (x8 : Option V) (x6 : V), (∀ v td H', TdV K H' v td → LtB mo (.conn hh ss td) → Off [tp] H H' → TapeQ K H' tp q → D.nx [some (.ref tp), some (.ref sl), some (.int hh), some (.int ss), some (.int cc), some (.int kd), some v, some (.int mo), x8] H') →
            tAsg (tTup (tCons (tCB (fun xs H Q => ∃ i j, xs = [V.int i, V.int j] ∧ Q (V.int (if j > i then j else i)) H) (tCons (tC (.int 1)) (tCons (tOp (rI0 fun i j => V.int (i - j)) (tOp (rI0 fun i j => V.int (i - j)) (tVar 3) (tC (.int 1))) (tCall (spNext K) [] E0 (tCons (tVar 0) (tCons (tC (.int 2)) tNil)))) tNil)))
              (tCons (tCall (spNext K) [] E0 (tCons (tVar 0) (tCons (tOp (rI0 fun i j => V.int (i + j)) (tC (.int 1)) (tVar 7)) tNil))) (tCons (tTup (tCons (tC (.str "ok")) (tCons (tCall (spNext K) [] E0 (tCons (tVar 0) (tCons (tC (.int 9)) tNil))) tNil))) tNil)))) (gName 6) D [some (.ref tp), some (.ref sl), some (.int hh), some (.int ss), some (.int cc), some (.int kd), some x6, some (.int mo), x8] H5 := by
          intro D x8 x6 fin
          refine ⟨_, rfl, _, _, rfl, rfl, _, rfl, tp, q, 2, rfl, t5, by decide, by decide, fun r6 H6 _ _ o6 t6 => ⟨_, _, rfl, rfl, nil_ ⟨_, _, rfl, ?_⟩⟩⟩
          have ha1 : 1 ≤ (if ss - 1 - r6 > 1 then ss - 1 - r6 else (1 : Int)) := by split <;> omega
          generalize (if ss - 1 - r6 > 1 then ss - 1 - r6 else (1 : Int)) = ta at ha1
          refine ⟨_, rfl, _, rfl, _, _, rfl, rfl, nil_ ⟨tp, q, 1 + mo, rfl, t6, by omega, by omega, fun r7 H7 b0 b1 o7 t7 => ?_⟩⟩
          refine ⟨_, rfl, tp, q, 9, rfl, t7, by decide, by decide, fun r8 H8 _ _ o8 t8 => ⟨by show 2 ≤ sizeLine; decide, fun t1 ht1 => ⟨by show 3 ≤ sizeLine; decide, fun t2 ht2 => ?_⟩⟩⟩
          have s1 := same_new (o := .tup [.str "ok", .int r8]) ht1
          have s2 := same_new (o := .tup [.int ta, .int r7, .ref t1]) ht2
          exact fin (.ref t2) (some (ta, r7, .int r8)) _ ⟨t2, .ref t1, rfl, SqT.of upd_same, t1, rfl, SqT.of (s2 _ _ upd_same), by decide +kernel, .inr ⟨_, rfl⟩⟩ ⟨ha1, b0, by omega⟩ (((((o05.trans o6).trans o7).trans o8).trans (Off.of s1)).trans (Off.of s2)) ((t8.same s1).same s2)
        rcases h75 with ⟨e7, em⟩ | ⟨a7, s7, cm7, e7, h77⟩
        · rw [show decide (r.v7 = V.non) = true from decide_eq_true e7]
          subst em
          exact iteF (fin _ _ _ fun v td H' z1 z2 z3 z4 => ⟨none, _, _, td, v, rfl, z1, z2, z3, z4⟩)
        · rw [show decide (r.v7 = V.non) = false from decide_eq_false (by rw [e7]; intro z; cases z)]
          refine iteT ⟨_, rfl, sl, _, _, _, rfl, rfl, SqL.of hsl5, atI_nat (j := 7) rfl, a7, _, _, _, e7, rfl, h77, atI_nat (j := 1) rfl, ?_⟩
          exact fin _ _ _ fun v td H' z1 z2 z3 z4 => ⟨none, _, _, td, v, rfl, z1, z2, z3, z4⟩
      · rintro σ H5 ⟨_, x7, x8, td, v, rfl, htd, hb, o5, t5⟩
        refine ⟨_, rfl, _, rfl, _, rfl, by show 5 ≤ sizeLine; decide, fun t ht => ?_⟩
        have s := same_new (o := .tup [.str "connected", .int hh, .int ss, v, .int 9]) ht
        exact k (.ref t) (.conn hh ss td) _ ⟨t, v, rfl, SqT.of upd_same, htd.tk (TK.of s)⟩ hb (o5.trans (Off.of s)) (t5.same s)
    · refine ⟨_, rfl, _, _, rfl, rfl, _, rfl, ?_⟩
      refine ite2 (fun _ => ?_) (fun _ => ?_)
      · -- answer
        refine ⟨_, rfl, _, rfl, _, rfl, by show 2 ≤ sizeLine; decide, fun ta hta => ⟨by show 2 ≤ sizeLine; decide, fun tb htb => ⟨by show 2 ≤ sizeLine; decide, fun tc htc => ⟨by show 3 ≤ sizeLine; decide, fun l5 hl5 => ?_⟩⟩⟩⟩
        have sa := same_new (o := .tup [.str "ok", .int 7]) hta
        have sb := same_new (o := .tup [.str "ok", .non]) htb
        have sc := same_new (o := .tup [.str "conflict", .non]) htc
        have ea : (upd H4 ta (.tup [.str "ok", .int 7])) ta = some (.tup [.str "ok", .int 7]) := upd_same
        have eb : (upd (upd H4 ta (.tup [.str "ok", .int 7])) tb (.tup [.str "ok", .non])) tb = some (.tup [.str "ok", .non]) := upd_same
        have ec : (upd (upd (upd H4 ta (.tup [.str "ok", .int 7])) tb (.tup [.str "ok", .non])) tc (.tup [.str "conflict", .non])) tc = some (.tup [.str "conflict", .non]) := upd_same
        have ea' := sc _ _ (sb _ _ ea)
        have eb' := sc _ _ eb
        have s4 := (sa.trans sb).trans sc
        generalize upd (upd (upd H4 ta (.tup [.str "ok", .int 7])) tb (.tup [.str "ok", .non])) tc (.tup [.str "conflict", .non]) = H5 at hl5 ec ea' eb' s4
        refine pickL (es := [.ref ta, .ref tb, .ref tc]) (j := 0) (t4.same s4) hl5 (by simp) (by simp) (fun z H6 hz o6 t6 k6 => ?_) arg
        obtain ⟨aw, ax, hav⟩ : ∃ aw ax, AnsV K H6 z aw ax := by
          simp only [List.mem_cons, List.not_mem_nil, or_false] at hz
          rcases hz with rfl | rfl | rfl
          · exact ⟨"ok", .int 7, ta, rfl, SqT.of (k6.t _ _ ea'), by decide +kernel, .inr ⟨_, rfl⟩⟩
          · exact ⟨"ok", .non, tb, rfl, SqT.of (k6.t _ _ eb'), by decide +kernel, .inl rfl⟩
          · exact ⟨"conflict", .non, tc, rfl, SqT.of (k6.t _ _ ec), by decide +kernel, .inl rfl⟩
        refine ⟨by show 6 ≤ sizeLine; decide, fun t ht => ?_⟩
        have s := same_new (o := .tup [.str "answer", .int hh, .int ss, .int cc, z, .int 9]) ht
        exact k (.ref t) (.ans hh ss cc aw ax) _ ⟨t, z, rfl, SqT.of upd_same, hav.tk (TK.of s)⟩ trivial ((((o04.trans (Off.of s4))).trans o6).trans (Off.of s)) (t6.same s)
      · -- no
        refine ⟨by show 4 ≤ sizeLine; decide, fun l5 hl5 => ?_⟩
        refine pickL (es := [.str "lost", .str "lost", .str "old", .str "early"]) (j := 0) t4 hl5 (by decide) (by decide) (fun z H5 hz o5 t5 k5 => ?_) arg
        obtain ⟨w, rfl, hw⟩ : ∃ w, z = .str w ∧ PyData.strOk w = true := by
          simp only [List.mem_cons, List.not_mem_nil, or_false] at hz
          rcases hz with rfl | rfl | rfl | rfl <;> exact ⟨_, rfl, by decide +kernel⟩
        refine ⟨_, rfl, _, rfl, _, rfl, by show 2 ≤ sizeLine; decide, fun l6 hl6 => ?_⟩
        refine pickL (es := [.int cc, .int 0]) (j := 0) t5 hl6 (by simp) (by simp) (fun z6 H6 hz6 o6 t6 k6 => ?_) arg
        obtain ⟨x, rfl⟩ : ∃ x, z6 = .int x := by
          simp only [List.mem_cons, List.not_mem_nil, or_false] at hz6
          rcases hz6 with rfl | rfl <;> exact ⟨_, rfl⟩
        refine ⟨_, rfl, by show 6 ≤ sizeLine; decide, fun t ht => ?_⟩
        have s := same_new (o := .tup [.str "no", .int hh, .int ss, .int x, .str w, .int 2]) ht
        exact k (.ref t) (.no hh ss x w) _ ⟨t, rfl, SqT.of upd_same⟩ hw (((o04.trans o5).trans o6).trans (Off.of s)) (t6.same s)
end
end Sg

set_option Elab.async false
set_option linter.all false
set_option maxRecDepth 100000
set_option maxHeartbeats 4000000
namespace Sg
open PySem PySem.Spec PyProof.Rows L2
def spNote (K : PySem.W.Frag) : Sp := fun vs H Q _ => ∃ sl r s c cv w rr av aw ax es kvs, vs = [.ref sl, .int s, .int c, cv, av] ∧ H sl = some (.lst (LR.l r)) ∧ CmdV K H cv w rr ∧ AnsV K H av aw ax ∧ H r.en = some (.lst es) ∧ es.length < 900 ∧ H r.ke = some (.dK kvs) ∧ kvs.length < 900 ∧ sl ≠ r.en ∧
  ∀ t H', H t = none → H' r.en = some (.lst (es ++ [.ref t])) → H' t = some (.tup [.int s, .int c, cv, av]) → H' r.ke = some (.dK (keysA kvs w aw ax)) → Off [r.en, r.ke] H H' → TK H H' → Q .non H'
/-- what stands behind a connect -/
structure LP (K : PySem.W.Frag) (H : Hp) (sl : Addr) (r : LR) (td : Td) (ys es : List V) (kvs : KS) (w : Str) (ss k : Int) (cm : V) (H' : Hp) : Prop where
  lst : ∃ zs, H' r.lo = some (.lst (ys ++ zs)) ∧ DpAll K H' zs (lostD ss (lasting td ss) k) ∧ zs.length = (k - lasting td ss).toNat
  en : ∃ t av aw ax, H' r.en = some (.lst (es ++ [.ref t])) ∧ H' t = some (.tup [.int ss, .int k, cm, av]) ∧ AnsV K H' av aw ax ∧ (aw, ax) = ansW td ss k ∧ H' r.ke = some (.dK (keysA kvs w aw ax))
def spConnd (K : PySem.W.Frag) : Sp := fun vs H Q _ => ∃ sl r tv td, vs = [.ref sl, tv] ∧ H sl = some (.lst (LR.l r)) ∧ TdV K H tv td ∧ sl ≠ r.en ∧ sl ≠ r.lo ∧ r.en ≠ r.lo ∧
  ((r.v7 = .non ∧ ∀ H', H' sl = some (.lst (LR.l {r with cl := 0, st := "idle", le := .non, v7 := .non})) → Off [sl] H H' → TK H H' → Q (.bl true) H') ∨
   (∃ a ss k cm w rr ys es kvs, r.v7 = .ref a ∧ SqT K H a [.int ss, .int k, cm] ∧ CmdV K H cm w rr ∧ H r.lo = some (.lst ys) ∧ H r.en = some (.lst es) ∧ H r.ke = some (.dK kvs) ∧ (ys.length : Int) + k ≤ 900 ∧ 1 ≤ k ∧ es.length < 900 ∧ kvs.length < 900 ∧ 0 ≤ lasting td ss ∧ lasting td ss ≤ k ∧
    ∀ H', H' sl = some (.lst (LR.l {r with cl := 0, st := "idle", le := .non, v7 := .non})) → LP K H sl r td ys es kvs w ss k cm H' → Off [sl, r.en, r.lo, r.ke] H H' → TK H H' → Q (.bl true) H'))
section
variable {P : Program} {wd : World} {K : PySem.W.Frag} {mg : Str → Option Value} {base : Heap} {f f1 : Addr} {fd fd1 : FuncData}
theorem tk_lst {H : Hp} {a : Addr} {xs : List V} {o : HO} (h : H a = some (.lst xs)) : TK H (upd H a o) := TK.off (xs := [a]) (Off.upd (by simp)) fun x hx => by rw [List.mem_singleton.mp hx]; exact .inl ⟨_, h⟩
theorem tk_dct {H : Hp} {a : Addr} {xs : KS} {o : HO} (h : H a = some (.dK xs)) : TK H (upd H a o) := TK.off (xs := [a]) (Off.upd (by simp)) fun x hx => by rw [List.mem_singleton.mp hx]; exact .inr ⟨_, h⟩
theorem scNote : FnScope ["state", "session", "counter", "command", "answer"] ["state", "session", "counter", "command", "answer"] (defScope sNote) := ⟨rfl, rfl, rfl, by decide +kernel, rfl, by decide +kernel, by decide +kernel⟩
theorem ok_note (F : Fun K "_law_note" "_law_note" sNote f fd) : FnOk P wd K mg base CX0 1 f fd ["state", "session", "counter", "command", "answer"] (spNote K) := by
  refine F.ok scNote (fun vs H Q E h => ?_) (fun cdv A outer s H vs Q E hr h => ?_)
  · obtain ⟨sl, r, s, c, cv, w, rr, av, aw, ax, es, kvs, rfl, _⟩ := h
    rfl
  · obtain ⟨sl, r, s, c, cv, w, rr, av, aw, ax, es, kvs, rfl, hsl, hcm, hav, he, n1, hk, n2, nse, q⟩ := h
    refine ⟨_, (pss_cons (ps_expr (pe_bm PySem.F.plainAttrs_list PySem.F.slot_list_append PySem.F.type_list_append mt_append (pe_ix ix_list (pv 0) pe_int (fun _ _ => rfl)) (pa_cons (pe_tup (pa_cons (pv 1) (pa_cons (pv 2) (pa_cons (pv 3) (pa_cons (pv 4) pa_nil))))) pa_nil)))
      (Evl.pss_cut (ps_if (PW.pt (pw_and (pt_cmpR op_eq (pe_ix ix_tup (pv 4) pe_int (fun _ _ => rfl)) pe_str (nomark _)) (pw_and1 (pt_cmpR op_eq (pe_ix ix_tup (pv 3) pe_int (fun _ _ => rfl)) pe_str (nomark _)))))
      (pss_one (ps_dput (hu_of hr) (pe_ix ix_list (pv 0) pe_int (fun _ _ => rfl)) (pe_ix ix_tup (pv 3) pe_int (fun _ _ => rfl)) (pe_ix ix_tup (pv 4) pe_int (fun _ _ => rfl)) rfl)) pss_nil)
      (pss_one (ps_if (PW.pt (pw_and (pt_cmpR op_eq (pe_ix ix_tup (pv 4) pe_int (fun _ _ => rfl)) pe_str (nomark _)) (pw_and1 (pt_cmpR op_in_seq (pe_ix ix_tup (pv 3) pe_int (fun _ _ => rfl)) (pe_tup (pa_cons pe_str (pa_cons pe_str pa_nil))) (by rfl)))))
      (pss_one (ps_expr (pe_dpop2 (pe_ix ix_list (pv 0) pe_int (fun _ _ => rfl)) (pe_ix ix_tup (pv 3) pe_int (fun _ _ => rfl)) pe_non ⟨rfl, rfl, rfl, rfl⟩))) pss_nil)))), ?_⟩
    have nek : r.en ≠ r.ke := ne_of he hk (by intro z; cases z)
    have nsk : sl ≠ r.ke := ne_of hsl hk (by intro z; cases z)
    refine ⟨_, rfl, sl, _, _, _, rfl, rfl, SqL.of hsl, atI_nat (j := 4) rfl, .inl ⟨rfl, _, SqL.of he⟩, _, rfl, _, rfl, _, rfl, _, rfl, by show 4 ≤ sizeLine; decide, fun t ht => ?_⟩
    have s1 := same_new (o := .tup [.int s, .int c, cv, av]) ht
    have ht1 : (upd H t (.tup [.int s, .int c, cv, av])) t = some (.tup [.int s, .int c, cv, av]) := upd_same
    generalize upd H t (.tup [.int s, .int c, cv, av]) = H1 at s1 ht1
    have he1 := s1 _ _ he
    refine nil_ ⟨_, _, _, rfl, rfl, he1, small1000 (by omega), ?_⟩
    have nte : t ≠ r.en := (ne_of_none he ht).symm
    generalize hH2 : upd H1 r.en (.lst (es ++ [.ref t])) = H2
    have o2 : Off [r.en, r.ke] H H2 := fun b u e n => by
      simp only [List.mem_cons, List.not_mem_nil, or_false, not_or] at n
      rw [← hH2, upd_ne n.1]; exact s1 _ _ e
    have tk2 : TK H H2 := by rw [← hH2]; exact (TK.of s1).trans (tk_lst he1)
    have he2 : H2 r.en = some (.lst (es ++ [.ref t])) := by rw [← hH2, upd_same]
    have ht2 : H2 t = some (.tup [.int s, .int c, cv, av]) := by rw [← hH2, upd_ne nte]; exact ht1
    have hk2 : H2 r.ke = some (.dK kvs) := by rw [← hH2, upd_ne nek.symm]; exact s1 _ _ hk
    have hsl2 : H2 sl = some (.lst (LR.l r)) := by rw [← hH2, upd_ne nse]; exact s1 _ _ hsl
    obtain ⟨aa, rfl, ha, _, _⟩ := hav.tk tk2
    obtain ⟨ca, rfl, hc, hm⟩ := hcm.tk tk2
    -- if answer[0] == "ok" and command[0] == "register"
    refine ⟨fun σ H' => ∃ kv, σ = [some (.ref sl), some (.int s), some (.int c), some (.ref ca), some (.ref aa)] ∧ H' r.en = some (.lst (es ++ [.ref t])) ∧ H' t = some (.tup [.int s, .int c, .ref ca, .ref aa]) ∧ H' r.ke = some (.dK kv) ∧ H' sl = some (.lst (LR.l r)) ∧ kv = (if aw = "ok" ∧ w = "register" then putK kvs (Sum.inl 2) ax else kvs) ∧ Off [r.en, r.ke] H H' ∧ TK H H' ∧ TK H2 H', ?_, ?_⟩
    · refine ⟨_, rfl, aa, _, _, _, rfl, rfl, ha, atI_nat (j := 0) rfl, rfl, _, rfl, ?_⟩
      by_cases e1 : aw = "ok"
      · rw [e1, str_eqT]
        refine iteT ⟨_, rfl, ca, _, _, _, rfl, rfl, hc, atI_nat (j := 0) rfl, rfl, _, rfl, ?_⟩
        by_cases e2 : w = "register"
        · obtain ⟨r', rfl⟩ := cmd_two hm (.inr (.inl e2))
          rw [e2, str_eqT]
          refine iteT ⟨_, rfl, aa, _, _, _, rfl, rfl, ha, atI_nat (j := 1) rfl, _, rfl, sl, _, _, _, rfl, rfl, SqL.of hsl2, atI_nat (j := 6) rfl, _, rfl, ca, _, _, _, rfl, rfl, hc, atI_nat (j := 1) rfl, r.ke, _, rfl, DPut.k (k := Sum.inl 2) hk2 (small1000 (by omega)), ?_⟩
          refine ⟨_, rfl, by rw [upd_ne nek]; exact he2, by rw [upd_ne (ne_of ht2 hk2 (by intro z; cases z))]; exact ht2, upd_same, by rw [upd_ne nsk]; exact hsl2, (if_pos ⟨rfl, rfl⟩).symm, o2.trans (Off.upd (by simp)), tk2.trans (tk_dct hk2), tk_dct hk2⟩
        · rw [str_eqF e2]
          exact iteF ⟨kvs, rfl, he2, ht2, hk2, hsl2, (if_neg fun z => e2 z.2).symm, o2, tk2, TK.refl _⟩
      · rw [str_eqF e1]
        exact iteF (iteF ⟨kvs, rfl, he2, ht2, hk2, hsl2, (if_neg fun z => e1 z.1).symm, o2, tk2, TK.refl _⟩)
    rintro σ H3 ⟨kv, rfl, he3, ht3, hk3, hsl3, ekv, o3, tk3, tk23⟩
    have ha3 := sqT_tk ha tk23
    have hc3 := sqT_tk hc tk23
    refine ⟨_, rfl, aa, _, _, _, rfl, rfl, ha3, atI_nat (j := 0) rfl, rfl, _, rfl, ?_⟩
    by_cases e1 : aw = "ok"
    · rw [e1, str_eqT]
      refine iteT ⟨_, rfl, ca, _, _, _, rfl, rfl, hc3, atI_nat (j := 0) rfl, by show 2 ≤ sizeLine; decide, fun t2 ht2' => ?_⟩
      have s4 := same_new (o := .tup [.str "leave", .str "remove"]) ht2'
      refine ⟨t2, _, rfl, .inr (SqT.of upd_same), rfl, rfl, _, rfl, ?_⟩
      have ei : inV (.str w) [.str "leave", .str "remove"] = strIn w ["leave", "remove"] := inV_str (ns := ["leave", "remove"])
      rw [ei]
      generalize upd H3 t2 (.tup [.str "leave", .str "remove"]) = H4 at s4
      have hk4 := s4 _ _ hk3
      have stay : keysA kvs w aw ax = kv → Q .non H4 := fun ek => q t H4 ht (s4 _ _ he3) (s4 _ _ ht3) (by rw [ek]; exact hk4) (o3.trans (Off.of s4)) (tk3.trans (TK.of s4))
      cases e3 : strIn w ["leave", "remove"] with
      | true =>
        have e2 : ¬ w = "register" := fun z => by rw [z] at e3; revert e3; decide
        obtain ⟨r', rfl⟩ := cmd_two hm (.inr (.inr e3))
        rw [if_neg (fun z => e2 z.2)] at ekv
        subst ekv
        have ek : keysA kv w aw ax = dropK kv (Sum.inl 2) := by unfold keysA; rw [if_pos e1, if_neg e2, if_pos e3]
        refine iteT ⟨_, rfl, sl, _, _, _, rfl, rfl, SqL.of (s4 _ _ hsl3), atI_nat (j := 6) rfl, _, rfl, .inl ⟨kv, .inl hk4⟩, _, rfl, ca, _, _, _, rfl, rfl, SqT_same s4 hc3, atI_nat (j := 1) rfl, kv, Sum.inl 2, hk4, rfl, (fun v _ => ?_), fun hn => stay (by rw [ek]; exact drop_none hn)⟩
        refine q t _ ht (by rw [upd_ne nek]; exact s4 _ _ he3) (by rw [upd_ne (ne_of (s4 _ _ ht3) hk4 (by intro z; cases z))]; exact s4 _ _ ht3) (by rw [ek, upd_same]) ((o3.trans (Off.of s4)).trans (Off.upd (by simp))) ((tk3.trans (TK.of s4)).trans (tk_dct hk4))
      | false =>
        refine iteF (stay ?_)
        unfold keysA
        rw [if_pos e1, ekv]
        by_cases e2 : w = "register"
        · rw [if_pos e2, if_pos ⟨e1, e2⟩]
        · rw [if_neg e2, if_neg (by rw [e3]; decide), if_neg (fun z => e2 z.2)]
    · rw [str_eqF e1]
      refine iteF (iteF (q t H3 ht he3 ht3 (by rw [hk3, ekv, if_neg (fun z => e1 z.1)]; unfold keysA; rw [if_neg e1]) o3 tk3))
theorem scConnd : FnScope ["state", "told", "session", "counter", "command", "kept", "number"] ["state", "told"] (defScope sConnd) := ⟨rfl, rfl, rfl, by decide +kernel, rfl, by decide +kernel, by decide +kernel⟩
theorem ok_connd (F : Fun K "_law_connected" "_law_connected" sConnd f fd) (B : BB5 mg) (GO : Def P wd K mg base CX0 "_law_note" 1 ["state", "session", "counter", "command", "answer"] (spNote K) f1 fd1) : FnOk P wd K mg base CX0 2 f fd ["state", "told"] (spConnd K) := by
  refine F.ok scConnd (fun vs H Q E h => ?_) (fun cdv A outer s H vs Q E hr h => ?_)
  · obtain ⟨sl, r, tv, td, rfl, _⟩ := h
    rfl
  · obtain ⟨sl, r, tv, td, rfl, hsl, htd, ne1, ne2, ne3, hh⟩ := h
    refine ⟨_, (Evl.pss_cut (ps_if (pt_cmpR op_notN (pe_ix ix_list (pv 0) pe_int (fun _ _ => rfl)) pe_non (nomark _))
      (pss_cons (ps_asg (pe_ix ix_list (pv 0) pe_int (fun _ _ => rfl)) (pg_tup (by rfl) (pgs_cons (pg_name (i := 2) scConnd.nd rfl (Or.inl rfl)) (pgs_cons (pg_name (i := 3) scConnd.nd rfl (Or.inl rfl)) (pgs_cons (pg_name (i := 4) scConnd.nd rfl (Or.inl rfl)) L2.pgs_nil)))))
      (pss_cons (ps_set (i := 5) scConnd.nd rfl (Or.inl rfl) (pe_ifExp (PW.pt (pw_and (pt_cmpR op_notN (pv 1) pe_non (nomark _)) (pw_and1 (pt_cmpR op_eq (pe_ix ix_tup (pv 1) pe_int (fun _ _ => rfl)) (pv 2) (nomark _))))) (pe_ix ix_tup (pv 1) pe_int (fun _ _ => rfl)) pe_int))
      (pss_cons (ps_for PassesOwn.never rfl (pi_range2 (by rfl) B.range (pa_cons (pe_op op_add (pv 5) pe_int) (pa_cons (pe_op op_add (pv 3) pe_int) pa_nil))) (pg_name (i := 6) scConnd.nd rfl (Or.inl rfl))
      (pss_one (ps_expr (pe_bm PySem.F.plainAttrs_list PySem.F.slot_list_append PySem.F.type_list_append mt_append (pe_ix ix_list (pv 0) pe_int (fun _ _ => rfl)) (pa_cons (pe_tup (pa_cons (pv 2) (pa_cons (pv 6) pa_nil))) pa_nil)))))
      (pss_one (ps_expr (pe_call GO.ok hr (by rfl) GO.mg GO.kp GO.bd .nil pass0 (pa_cons (pv 0) (pa_cons (pv 2) (pa_cons (pv 3) (pa_cons (pv 4) (pa_cons (pe_ifExp (pt_cmpR op_eq (pv 5) (pv 3) (nomark _)) (pe_ix ix_tup (pv 1) pe_int (fun _ _ => rfl)) (pe_tup (pa_cons pe_str (pa_cons pe_non pa_nil)))) pa_nil))))))))))) pss_nil)
      (pss_cons (ps_asg pe_non (pg_sub (pv 0) pe_int set_list))
      (pss_cons (ps_asg pe_int (pg_sub (pv 0) pe_int set_list))
      (pss_cons (ps_asg pe_str (pg_sub (pv 0) pe_int set_list))
      (pss_cons (ps_asg pe_non (pg_sub (pv 0) pe_int set_list))
      (pss_one (ps_ret pe_bl))))))), ?_⟩
    -- the end, whatever stood before
    refine ⟨fun σ H' => ∃ x2 x3 x4 x5 x6, σ = [some (.ref sl), some tv, x2, x3, x4, x5, x6] ∧ H' sl = some (.lst (LR.l r)) ∧ ∀ H'', H'' = upd H' sl (.lst (LR.l {r with cl := 0, st := "idle", le := .non, v7 := .non})) → Q (.bl true) H'', ?_, ?_⟩
    · refine ⟨_, rfl, sl, _, _, _, rfl, rfl, SqL.of hsl, atI_nat (j := 7) rfl, rfl, _, rfl, ?_⟩
      rcases hh with ⟨e7, q⟩ | ⟨a, ss, k, cm, w, rr, ys, es, kvs, e7, h7, hcm, hlo, hen, hke, n1, n2, n3, n4, l0, l1, q⟩
      · rw [show decide (r.v7 = V.non) = true from decide_eq_true e7]
        exact iteF ⟨_, _, _, _, _, rfl, hsl, fun H'' e => by rw [e]; exact q _ upd_same (Off.upd (by simp)) (tk_lst hsl)⟩
      · rw [show decide (r.v7 = V.non) = false from decide_eq_false (by rw [e7]; intro z; cases z)]
        refine iteT ⟨_, rfl, sl, _, _, _, rfl, rfl, SqL.of hsl, atI_nat (j := 7) rfl, a, _, e7, h7, rfl, _, _, rfl, _, _, rfl, _, _, rfl, rfl, ?_⟩
        generalize hlas : lasting td ss = las
        rw [hlas] at l0 l1
        have kept : ∀ Q' : VK, Q' (.int las) H → tIf (tAnd (tTest (tOp (fun x y H Q => y = V.non ∧ Q (V.bl !decide (x = V.non)) H) (tVar 1) (tC V.non))) (tTest (tOp rEq (tOp (rIxT K) (tVar 1) (tC (.int 0))) (tVar 2)))) (tOp (rIxT K) (tVar 1) (tC (.int 1))) (tC (.int 0)) [some (.ref sl), some tv, some (.int ss), some (.int k), some cm, none, none] H Q' := by
          intro Q' q'
          refine ⟨_, rfl, rfl, _, rfl, ?_⟩
          cases td with
          | none =>
            have e : tv = .non := htd
            subst e
            rw [show decide (V.non = V.non) = true from decide_eq_true rfl]
            have : las = 0 := hlas.symm
            subst this
            exact iteF (iteF q')
          | some x =>
            obtain ⟨a0, b0, x⟩ := x
            obtain ⟨qq, av, rfl, hq, _⟩ := htd
            rw [decide_eq_false (show ¬ V.ref qq = V.non by intro z; cases z)]
            refine iteT ⟨_, rfl, qq, _, _, _, rfl, rfl, hq, atI_nat (j := 0) rfl, _, rfl, rfl, _, rfl, ?_⟩
            have el : las = if a0 = ss then b0 else 0 := hlas.symm
            by_cases c : a0 = ss
            · rw [decide_eq_true (show V.int a0 = V.int ss by rw [c])]
              rw [if_pos c] at el
              subst el
              exact iteT ⟨_, rfl, qq, _, _, _, rfl, rfl, hq, atI_nat (j := 1) rfl, q'⟩
            · rw [decide_eq_false (fun z => c (by injection z))]
              rw [if_neg c] at el
              subst el
              exact iteF q'
        refine kept _ ?_
        -- for number in range(kept + 1, counter + 1)
        refine ⟨_, rfl, _, _, rfl, rfl, _, rfl, _, _, rfl, rfl, nil_ ⟨_, _, rfl, by omega, ?_⟩⟩
        have en : (k + 1 - (las + 1)).toNat = (k - las).toNat := by omega
        rw [en]
        refine for_range (lo := las + 1) (n := (k - las).toNat) (fun i σ H1 => ∃ x6 zs, σ = [some (.ref sl), some tv, some (.int ss), some (.int k), some cm, some (.int las), x6] ∧ H1 sl = some (.lst (LR.l r)) ∧ H1 r.lo = some (.lst (ys ++ zs)) ∧ zs.length = i ∧ DpAll K H1 zs ((lostD ss las k).take i) ∧ Off [r.lo] H H1 ∧ TK H H1) ?_ ?_ ?_
        · exact ⟨none, [], rfl, hsl, by rw [List.append_nil]; exact hlo, rfl, .nil, Off.refl H, TK.refl H⟩
        · rintro i σ H1 hi ⟨x6, zs, rfl, hsl1, hlo1, hl, hdp, o1, tk1⟩
          refine ⟨_, rfl, sl, _, _, _, rfl, rfl, SqL.of hsl1, atI_nat (j := 5) rfl, .inl ⟨rfl, _, SqL.of hlo1⟩, _, rfl, _, rfl, by show 2 ≤ sizeLine; decide, fun t ht => ?_⟩
          have s2 := same_new (o := .tup [.int ss, .int (las + 1 + (i : Int))]) ht
          have ht2 : (upd H1 t (.tup [.int ss, .int (las + 1 + (i : Int))])) t = some (.tup [.int ss, .int (las + 1 + (i : Int))]) := upd_same
          generalize upd H1 t (.tup [.int ss, .int (las + 1 + (i : Int))]) = H2 at s2 ht2
          have hlo2 := s2 _ _ hlo1
          refine nil_ ⟨_, _, _, rfl, rfl, hlo2, small1000 (by rw [List.length_append]; omega), ?_⟩
          have tk3 : TK H2 (upd H2 r.lo (.lst (ys ++ zs ++ [.ref t]))) := tk_lst hlo2
          refine ⟨_, zs ++ [.ref t], rfl, by rw [upd_ne ne2]; exact s2 _ _ hsl1, by rw [upd_same, List.append_assoc], by rw [List.length_append, hl]; rfl, ?_, (o1.trans (Off.of s2)).trans (Off.upd (by simp)), (tk1.trans (TK.of s2)).trans tk3⟩
          have hge : (lostD ss las k)[i]? = some (.tuple [.int ss, .int (las + 1 + (i : Int))]) := by
            unfold lostD
            rw [List.getElem?_map, List.getElem?_range hi]; rfl
          rw [List.take_add_one, hge]
          refine dpAll_snoc ?_ (.tup (SqT.of (tk3.t _ _ ht2)) (.cons (.int _) (.cons (.int _) .nil)))
          exact dpAll_tk tk3 _ _ (tupOs_take tupOs_lost i) (dpAll_same s2 _ _ hdp)
        · rintro σ H1 ⟨x6, zs, rfl, hsl1, hlo1, hl, hdp, o1, tk1⟩
          rw [List.take_of_length_le (by unfold lostD; rw [List.length_map, List.length_range]; exact Nat.le_refl _)] at hdp
          have hen1 := o1 _ _ hen (by simpa using ne3)
          have nlk : r.lo ≠ r.ke := ne_of hlo hke (by intro z; cases z)
          have hke1 := o1 _ _ hke (by simpa using nlk.symm)
          have nsk : sl ≠ r.ke := ne_of hsl hke (by intro z; cases z)
          have fin : ∀ (av : V) (aw : Str) (ax : V) (H2 : Hp), Same H1 H2 → AnsV K H2 av aw ax → (aw, ax) = ansW td ss k → spNote K [.ref sl, .int ss, .int k, cm, av] H2 (fun _ H5 => ∃ y2 y3 y4 y5 y6, [some (V.ref sl), some tv, some (.int ss), some (.int k), some cm, some (.int las), x6] = [some (V.ref sl), some tv, y2, y3, y4, y5, y6] ∧ H5 sl = some (.lst (LR.l r)) ∧ ∀ H'', H'' = upd H5 sl (.lst (LR.l {r with cl := 0, st := "idle", le := .non, v7 := .non})) → Q (.bl true) H'') E0 := by
            intro av aw ax H2 s2 hav hw
            refine ⟨sl, r, ss, k, cm, w, rr, av, aw, ax, es, kvs, rfl, s2 _ _ hsl1, hcm.tk (tk1.trans (TK.of s2)), hav, s2 _ _ hen1, n3, s2 _ _ hke1, n4, ne1, fun t H5 ht he5 ht5 hk5 o5 tk5 => ?_⟩
            have hsl5 := o5 _ _ (s2 _ _ hsl1) (by simp [ne1, nsk])
            have hlo5 := o5 _ _ (s2 _ _ hlo1) (by simp [ne3.symm, nlk])
            have dp5 := dpAll_tk tk5 _ _ tupOs_lost (dpAll_same s2 _ _ hdp)
            refine ⟨_, _, _, _, _, rfl, hsl5, fun H'' e => ?_⟩
            have tk6 : TK H5 H'' := by rw [e]; exact tk_lst hsl5
            have ntl : t ≠ sl := ne_of ht5 hsl5 (by intro z; cases z)
            refine q H'' (by rw [e, upd_same]) ⟨⟨zs, by rw [e, upd_ne ne2.symm]; exact hlo5, by rw [hlas]; exact dpAll_tk tk6 _ _ tupOs_lost dp5, by rw [hlas]; exact hl⟩, ⟨t, av, aw, ax, by rw [e, upd_ne ne1.symm]; exact he5, by rw [e, upd_ne ntl]; exact ht5, hav.tk (tk5.trans tk6), hw, by rw [e, upd_ne nsk.symm]; exact hk5⟩⟩ ?_ (((tk1.trans (TK.of s2)).trans tk5).trans tk6)
            intro b u eb n
            simp only [List.mem_cons, List.not_mem_nil, or_false, not_or] at n
            rw [e, upd_ne n.1]
            exact o5 _ _ (s2 _ _ (o1 _ _ eb (by simpa using n.2.2.1))) (by simp [n.2.1, n.2.2.2])
          refine ⟨_, rfl, _, rfl, _, rfl, _, rfl, ?_⟩
          refine ⟨_, rfl, _, rfl, rfl, _, rfl, ?_⟩
          by_cases ck : las = k
          · rw [decide_eq_true (show V.int las = V.int k by rw [ck])]
            cases td with
            | none =>
              have : las = 0 := hlas.symm
              omega
            | some x =>
              obtain ⟨a0, b0, x⟩ := x
              obtain ⟨qq, av, rfl, hq, hav⟩ := htd
              refine iteT ⟨_, rfl, qq, _, _, _, rfl, rfl, sqT_tk hq tk1, atI_nat (j := 2) rfl, nil_ (fin av "ok" x H1 (Same.refl H1) (hav.tk tk1) ?_)⟩
              unfold ansW
              rw [hlas, if_pos (by omega)]
          · rw [decide_eq_false (fun z => ck (by injection z))]
            refine iteF ⟨by show 2 ≤ sizeLine; decide, fun t ht => nil_ (fin (.ref t) "lost" .non _ (same_new ht) ⟨t, rfl, SqT.of upd_same, by decide +kernel, .inl rfl⟩ ?_)⟩
            unfold ansW
            rw [hlas, if_neg (by omega)]
    · rintro σ H1 ⟨x2, x3, x4, x5, x6, rfl, hsl1, q⟩
      refine ⟨_, rfl, sl, _, _, 7, rfl, rfl, hsl1, rfl, ?_⟩
      refine ⟨_, rfl, sl, _, _, 1, rfl, rfl, upd_same, rfl, ?_⟩
      rw [upd_upd]
      refine ⟨_, rfl, sl, _, _, 2, rfl, rfl, upd_same, rfl, ?_⟩
      rw [upd_upd]
      refine ⟨_, rfl, sl, _, _, 3, rfl, rfl, upd_same, rfl, ?_⟩
      rw [upd_upd]
      exact q _ rfl
end
end Sg

set_option Elab.async false
set_option linter.all false
set_option maxRecDepth 100000
set_option maxHeartbeats 4000000
namespace Sg
open PySem PySem.Spec PyProof.Rows L2
def hOf (r : LR) : HR := ⟨3, r.s, r.cl, r.st, .non, 0, 0, .non, r.ke, r.en, r.lo⟩
/-- the letter under way, a command -/
def DoL (K : PySem.W.Frag) (H : Hp) (le cv : V) (w : Str) (rr : List Int) : Prop := ∃ t6 x1 x2 x3 kv, le = .ref t6 ∧ SqT K H t6 [.str "do", x1, x2, x3, kv, cv] ∧ CmdV K H cv w rr
theorem DoL.tk {K : PySem.W.Frag} {H H' : Hp} {le cv : V} {w : Str} {rr : List Int} (h : DoL K H le cv w rr) (s : TK H H') : DoL K H' le cv w rr := by
  obtain ⟨t6, x1, x2, x3, kv, e, h1, h2⟩ := h
  exact ⟨t6, x1, x2, x3, kv, e, sqT_tk h1 s, h2.tk s⟩
def spDue (K : PySem.W.Frag) : Sp := fun vs H Q _ => ∃ sl r lv L mo, vs = [.ref sl, lv] ∧ H sl = some (.lst (LR.l r)) ∧ LtV K H lv L ∧ LtB mo L ∧ sl ≠ r.en ∧ sl ≠ r.lo ∧ r.en ≠ r.lo ∧
  (oc (hOf r) L = .no → ∀ H', Same H H' → Q (.bl false) H') ∧
  (oc (hOf r) L = .nw → ∀ t H', H' sl = some (.lst (LR.l {r with s := r.s + 1, le := .ref t})) → H' t = some (.tup [.str "connect", .int 3, .int (r.s + 1)]) → Off [sl] H H' → TK H H' → Q (.bl true) H') ∧
  (∀ td, oc (hOf r) L = .con td →
    ((r.v7 = .non ∧ ∀ H', H' sl = some (.lst (LR.l {r with cl := 0, st := "idle", le := .non, v7 := .non})) → Off [sl] H H' → TK H H' → Q (.bl true) H') ∨
     (∃ a ss k cm w rr ys es kvs, r.v7 = .ref a ∧ SqT K H a [.int ss, .int k, cm] ∧ CmdV K H cm w rr ∧ H r.lo = some (.lst ys) ∧ H r.en = some (.lst es) ∧ H r.ke = some (.dK kvs) ∧ (ys.length : Int) + k ≤ 900 ∧ 1 ≤ k ∧ es.length < 900 ∧ kvs.length < 900 ∧ 0 ≤ lasting td ss ∧ lasting td ss ≤ k ∧
      ∀ H', H' sl = some (.lst (LR.l {r with cl := 0, st := "idle", le := .non, v7 := .non})) → LP K H sl r td ys es kvs w ss k cm H' → Off [sl, r.en, r.lo, r.ke] H H' → TK H H' → Q (.bl true) H'))) ∧
  (∀ aw ax, oc (hOf r) L = .ended aw ax → ∃ cv w rr es kvs, DoL K H r.le cv w rr ∧ H r.en = some (.lst es) ∧ es.length < 900 ∧ H r.ke = some (.dK kvs) ∧ kvs.length < 900 ∧
    ∀ t av H', H' sl = some (.lst (LR.l {r with st := "idle", le := .non})) → H' r.en = some (.lst (es ++ [.ref t])) → H' t = some (.tup [.int r.s, .int r.cl, cv, av]) → AnsV K H' av aw ax → H' r.ke = some (.dK (keysA kvs w aw ax)) → Off [sl, r.en, r.ke] H H' → TK H H' → Q (.bl true) H') ∧
  (oc (hOf r) L = .lost → ∃ cv w rr, DoL K H r.le cv w rr ∧ ∀ a7 H', H' sl = some (.lst (LR.l {r with v7 := .ref a7, st := "new", le := .non})) → H' a7 = some (.tup [.int r.s, .int r.cl, cv]) → Off [sl] H H' → TK H H' → Q (.bl true) H')
theorem cut_mid {xs : List V} {m n : Nat} (h : n ≤ xs.length) (hm : m ≤ n) : cutV xs (some (m : Int)) (some (n : Int)) = (xs.drop m).take (n - m) := by
  unfold cutV
  rw [HT.sIx_nat, HT.sIx_nat, Nat.min_eq_left (Nat.le_trans hm h), Nat.min_eq_left h]
theorem eqv_is {a b : Int} {x y : Str} : PyData.eqv (.tuple [.int a, .str x]) (.tuple [.int b, .str y]) = (decide (a = b) && decide (x = y)) := by
  simp only [PyData.eqv, PyData.eqvAll]
  by_cases h1 : a = b <;> by_cases h2 : x = y <;> simp [h1, h2]
theorem sh_is {a : Int} {x : Str} (h : PyData.strOk x = true) : SeqAt.shaped (.tuple [.int a, .str x]) = true := (gd_tup2 (n := 0) gd_int ⟨rfl, by simpa [PyData.canLay0] using h, by simp [PyData.depth]⟩).sh (by decide)
theorem ans_dp {K : PySem.W.Frag} {H : Hp} {v x : V} {w : Str} (h : AnsV K H v w x) : ∃ d, Dp K H v d ∧ GD 1 d := by
  obtain ⟨a, rfl, h1, h2, h3⟩ := h
  have gs : GD 0 (.str w) := ⟨rfl, by simpa [PyData.canLay0] using h2, by simp [PyData.depth]⟩
  rcases h3 with rfl | ⟨i, rfl⟩
  · exact ⟨.tuple [.str w, .none], .tup h1 (.cons (.str _) (.cons .non .nil)), gd_tup2 gs gd_none⟩
  · exact ⟨.tuple [.str w, .int i], .tup h1 (.cons (.str _) (.cons (.int _) .nil)), gd_tup2 gs gd_int⟩
theorem td_dp {K : PySem.W.Frag} {H : Hp} {v : V} {td : Td} (h : TdV K H v td) : ∃ d, Dp K H v d ∧ GD 2 d ∧ ∀ c, PyData.eqv d (.int c) = false := by
  cases td with
  | none =>
    have e : v = .non := h
    subst e
    exact ⟨.none, .non, gd_none, fun c => by simp [PyData.eqv]⟩
  | some x =>
    obtain ⟨a, b, x⟩ := x
    obtain ⟨q, av, rfl, h1, h2⟩ := h
    obtain ⟨d, hd, g⟩ := ans_dp h2
    exact ⟨.tuple [.int a, .int b, d], .tup h1 (.cons (.int _) (.cons (.int _) (.cons hd .nil))), gd_tup3 gd_int gd_int g, fun c => by simp [PyData.eqv]⟩
theorem and_no {a b : Prop} [Decidable a] [Decidable b] (h : ¬ (a ∧ b)) : (decide a && decide b) = false := by
  rw [Bool.eq_false_iff]
  intro z
  rw [Bool.and_eq_true, decide_eq_true_eq, decide_eq_true_eq] at z
  exact h z
theorem and_no3 {a b c : Prop} [Decidable a] [Decidable b] [Decidable c] (h : ¬ (a ∧ b ∧ c)) : (decide a && (decide b && decide c)) = false := by
  rw [Bool.eq_false_iff]
  intro z
  rw [Bool.and_eq_true, Bool.and_eq_true, decide_eq_true_eq, decide_eq_true_eq, decide_eq_true_eq] at z
  exact h z
section
variable {P : Program} {wd : World} {K : PySem.W.Frag} {mg : Str → Option Value} {base : Heap} {f f1 f2 : Addr} {fd fd1 fd2 : FuncData}
theorem scDue : FnScope ["state", "letter"] ["state", "letter"] (defScope sDue) := ⟨rfl, rfl, rfl, by decide +kernel, rfl, by decide +kernel, by decide +kernel⟩
theorem ok_due (F : Fun K "_law_due" "_law_due" sDue f fd) (GO : Def P wd K mg base CX0 "_law_note" 1 ["state", "session", "counter", "command", "answer"] (spNote K) f1 fd1) (GK : Def P wd K mg base CX0 "_law_connected" 2 ["state", "told"] (spConnd K) f2 fd2) : FnOk P wd K mg base CX0 3 f fd ["state", "letter"] (spDue K) := by
  refine F.ok scDue (fun vs H Q E h => ?_) (fun cdv A outer s H vs Q E hr h => ?_)
  · obtain ⟨sl, r, lv, L, mo, rfl, _⟩ := h
    rfl
  · obtain ⟨sl, r, lv, L, mo, rfl, hsl, hL, hB, ne1, ne2, ne3, q0, q1, q2, q3, q4⟩ := h
    have hr1 : Room 1 _ := hr.mono (by decide)
    refine ⟨_, (pss_cons (ps_if (PW.pt (pw_and (pt_cmpR op_eq (pe_ix ix_list (pv 0) pe_int (fun _ _ => rfl)) pe_str (nomark _)) (pw_and1 (pt_cmpR (op_eqD hr.units) (pe_slice sl_any (pv 1) (po_some pe_int) (po_some pe_int)) (pe_tup (pa_cons pe_int (pa_cons (pe_ix ix_list (pv 0) pe_int (fun _ _ => rfl)) pa_nil))) (nomark _)))))
      (pss_cons (ps_if (PW.pt (pw_and (pt_cmpR op_eq (pe_ix ix_tup (pv 1) pe_int (fun _ _ => rfl)) pe_str (nomark _)) (pw_and1 (pt_cmpR (op_eqD hr.units) (pe_slice sl_any (pv 1) (po_some pe_int) (po_some pe_int)) (pe_tup (pa_cons pe_int (pa_cons pe_str pa_nil))) (nomark _)))))
      (pss_cons (ps_augS (pv 0) pe_int get_list pe_int ip_add set_list)
      (pss_cons (ps_asg (pe_tup (pa_cons pe_str (pa_cons pe_int (pa_cons (pe_ix ix_list (pv 0) pe_int (fun _ _ => rfl)) pa_nil)))) (pg_sub (pv 0) pe_int set_list))
      (pss_one (ps_ret pe_bl)))) pss_nil)
      (pss_one (ps_if (pt_cmpR op_eq (pe_ix ix_tup (pv 1) pe_int (fun _ _ => rfl)) pe_str (nomark _))
      (pss_one (ps_ret (pe_call GK.ok hr (by rfl) GK.mg GK.kp GK.bd .nil pass0 (pa_cons (pv 0) (pa_cons (pe_ix ix_tup (pv 1) pe_int (fun _ _ => rfl)) pa_nil))))) pss_nil))) pss_nil)
      (pss_cons (ps_if (PW.pt (pw_and (pt_cmpR op_eq (pe_ix ix_list (pv 0) pe_int (fun _ _ => rfl)) pe_str (nomark _)) (pw_and1 (pt_cmpR (op_eqD hr.units) (pe_slice sl_any (pv 1) (po_some pe_int) (po_some pe_int)) (pe_tup (pa_cons pe_int (pa_cons (pe_ix ix_list (pv 0) pe_int (fun _ _ => rfl)) (pa_cons (pe_ix ix_list (pv 0) pe_int (fun _ _ => rfl)) pa_nil)))) (nomark _)))))
      (pss_cons (ps_if (pt_cmpR op_eq (pe_ix ix_tup (pv 1) pe_int (fun _ _ => rfl)) pe_str (nomark _))
      (pss_cons (ps_expr (pe_call GO.ok hr1 (by rfl) GO.mg GO.kp GO.bd .nil pass0 (pa_cons (pv 0) (pa_cons (pe_ix ix_list (pv 0) pe_int (fun _ _ => rfl)) (pa_cons (pe_ix ix_list (pv 0) pe_int (fun _ _ => rfl)) (pa_cons (pe_ix ix_tup (pe_ix ix_list (pv 0) pe_int (fun _ _ => rfl)) pe_int (fun _ _ => rfl)) (pa_cons (pe_ix ix_tup (pv 1) pe_int (fun _ _ => rfl)) pa_nil)))))))
      (pss_cons (ps_asg pe_str (pg_sub (pv 0) pe_int set_list))
      (pss_cons (ps_asg pe_non (pg_sub (pv 0) pe_int set_list))
      (pss_one (ps_ret pe_bl))))) pss_nil)
      (pss_one (ps_if (PW.pt (pw_and (pt_cmpR op_eq (pe_ix ix_tup (pv 1) pe_int (fun _ _ => rfl)) pe_str (nomark _)) (pw_and1 (pt_cmpR op_eq (pe_ix ix_tup (pv 1) pe_int (fun _ _ => rfl)) pe_str (nomark _)))))
      (pss_cons (ps_asg (pe_tup (pa_cons (pe_ix ix_list (pv 0) pe_int (fun _ _ => rfl)) (pa_cons (pe_ix ix_list (pv 0) pe_int (fun _ _ => rfl)) (pa_cons (pe_ix ix_tup (pe_ix ix_list (pv 0) pe_int (fun _ _ => rfl)) pe_int (fun _ _ => rfl)) pa_nil)))) (pg_sub (pv 0) pe_int set_list))
      (pss_cons (ps_asg pe_str (pg_sub (pv 0) pe_int set_list))
      (pss_cons (ps_asg pe_non (pg_sub (pv 0) pe_int set_list))
      (pss_one (ps_ret pe_bl))))) pss_nil))) pss_nil)
      (pss_one (ps_ret pe_bl)))), ?_⟩
    unfold oc at q0 q1 q2 q3 q4
    refine ⟨_, rfl, sl, _, _, _, rfl, rfl, SqL.of hsl, atI_nat (j := 2) rfl, rfl, _, rfl, ?_⟩
    by_cases hst : r.st = "connecting"
    · rw [if_pos (show (hOf r).st = "connecting" from hst)] at q0 q1 q2 q3 q4
      rw [hst, str_eqT]
      cases L with
      | conn hh ss td =>
        obtain ⟨a, tv, rfl, ha, htd⟩ := hL
        refine iteT ⟨_, rfl, 1, rfl, 3, rfl, a, _, rfl, ha, fun pp H1 s1 hpp => ?_⟩
        have ec : cutV [V.str "connected", .int hh, .int ss, tv, .int 9] (some 1) (some 3) = [.int hh, .int ss] := (cut_mid (m := 1) (n := 3) (by simp) (by decide)).trans rfl
        rw [ec] at hpp
        refine ⟨_, rfl, sl, _, _, _, rfl, rfl, SqL.of (s1 _ _ hsl), atI_nat (j := 0) rfl, by show 2 ≤ sizeLine; decide, fun t ht => ?_⟩
        have s2 := same_new (o := .tup [.int 3, .int r.s]) ht
        refine ⟨_, _, .tup (SqT_same s2 hpp) (.cons (.int _) (.cons (.int _) .nil)), .tup (SqT.of upd_same) (.cons (.int _) (.cons (.int _) .nil)), sh_pair, sh_pair, _, rfl, ?_⟩
        rw [eqv_pair]
        have s12 := s1.trans s2
        generalize upd H1 t (.tup [.int 3, .int r.s]) = H2 at s12
        by_cases c : hh = 3 ∧ ss = r.s
        · have eo : ocC (hOf r) (.conn hh ss td) = .con td := if_pos c
          rw [decide_eq_true c.1, decide_eq_true c.2]
          refine iteT ⟨_, rfl, a, _, _, _, rfl, rfl, (SqT_same s12 ha), atI_nat (j := 0) rfl, rfl, _, rfl, ?_⟩
          rw [str_eqF (show ¬ ("connected" : Str) = "no" by decide)]
          refine iteF (iteF ⟨_, rfl, a, _, _, _, rfl, rfl, (SqT_same s12 ha), atI_nat (j := 0) rfl, rfl, _, rfl, ?_⟩)
          rw [str_eqT]
          refine iteT ⟨_, rfl, _, rfl, a, _, _, _, rfl, rfl, (SqT_same s12 ha), atI_nat (j := 3) rfl, nil_ ⟨sl, r, tv, td, rfl, s12 _ _ hsl, htd.tk (TK.of s12), ne1, ne2, ne3, ?_⟩⟩
          rcases q2 td eo with ⟨e7, q⟩ | ⟨a7, ss', k, cm, w, rr, ys, es, kvs, z1, z2, z3, z4, z5, z6, z7, z8, z9, za, zb, zc, q⟩
          · exact .inl ⟨e7, fun H' h1 h2 h3 => q H' h1 ((Off.of s12).trans h2) ((TK.of s12).trans h3)⟩
          · exact .inr ⟨a7, ss', k, cm, w, rr, ys, es, kvs, z1, SqT_same s12 z2, z3.tk (TK.of s12), s12 _ _ z4, s12 _ _ z5, s12 _ _ z6, z7, z8, z9, za, zb, zc, fun H' h1 h2 h3 h4 => q H' h1 ⟨h2.lst, h2.en⟩ ((Off.of s12).trans h3) ((TK.of s12).trans h4)⟩
        · have EO : ocC (hOf r) (.conn hh ss td) = .no := if_neg c
          rw [and_no c]
          exact iteF ⟨_, rfl, sl, _, _, _, rfl, rfl, SqL.of (s12 _ _ hsl), atI_nat (j := 2) rfl, rfl, _, rfl, (by rw [hst, str_eqF (show ¬ ("connecting" : Str) = "waiting" by decide)]; exact iteF (iteF (q0 EO _ s12)))⟩
      | ans hh ss cc aw ax =>
        obtain ⟨a, av, rfl, ha, hav⟩ := hL
        have EO : ocC (hOf r) (.ans hh ss cc aw ax) = .no := rfl
        refine iteT ⟨_, rfl, 1, rfl, 3, rfl, a, _, rfl, ha, fun pp H1 s1 hpp => ?_⟩
        have ec : cutV [V.str "answer", .int hh, .int ss, .int cc, av, .int 9] (some 1) (some 3) = [.int hh, .int ss] := (cut_mid (m := 1) (n := 3) (by simp) (by decide)).trans rfl
        rw [ec] at hpp
        refine ⟨_, rfl, sl, _, _, _, rfl, rfl, SqL.of (s1 _ _ hsl), atI_nat (j := 0) rfl, by show 2 ≤ sizeLine; decide, fun t ht => ?_⟩
        have s2 := same_new (o := .tup [.int 3, .int r.s]) ht
        refine ⟨_, _, .tup (SqT_same s2 hpp) (.cons (.int _) (.cons (.int _) .nil)), .tup (SqT.of upd_same) (.cons (.int _) (.cons (.int _) .nil)), sh_pair, sh_pair, _, rfl, ?_⟩
        rw [eqv_pair]
        have s12 := s1.trans s2
        generalize upd H1 t (.tup [.int 3, .int r.s]) = H2 at s12
        by_cases c : hh = 3 ∧ ss = r.s
        · rw [decide_eq_true c.1, decide_eq_true c.2]
          refine iteT ⟨_, rfl, a, _, _, _, rfl, rfl, (SqT_same s12 ha), atI_nat (j := 0) rfl, rfl, _, rfl, ?_⟩
          rw [str_eqF (show ¬ ("answer" : Str) = "no" by decide)]
          refine iteF (iteF ⟨_, rfl, a, _, _, _, rfl, rfl, (SqT_same s12 ha), atI_nat (j := 0) rfl, rfl, _, rfl, ?_⟩)
          rw [str_eqF (show ¬ ("answer" : Str) = "connected" by decide)]
          exact iteF ⟨_, rfl, sl, _, _, _, rfl, rfl, SqL.of (s12 _ _ hsl), atI_nat (j := 2) rfl, rfl, _, rfl, (by rw [hst, str_eqF (show ¬ ("connecting" : Str) = "waiting" by decide)]; exact iteF (iteF (q0 EO _ s12)))⟩
        · rw [and_no c]
          exact iteF ⟨_, rfl, sl, _, _, _, rfl, rfl, SqL.of (s12 _ _ hsl), atI_nat (j := 2) rfl, rfl, _, rfl, (by rw [hst, str_eqF (show ¬ ("connecting" : Str) = "waiting" by decide)]; exact iteF (iteF (q0 EO _ s12)))⟩
      | no hh ss x w =>
        obtain ⟨a, rfl, ha⟩ := hL
        have hw : PyData.strOk w = true := hB
        refine iteT ⟨_, rfl, 1, rfl, 3, rfl, a, _, rfl, ha, fun pp H1 s1 hpp => ?_⟩
        have ec : cutV [V.str "no", .int hh, .int ss, .int x, .str w, .int 2] (some 1) (some 3) = [.int hh, .int ss] := (cut_mid (m := 1) (n := 3) (by simp) (by decide)).trans rfl
        rw [ec] at hpp
        refine ⟨_, rfl, sl, _, _, _, rfl, rfl, SqL.of (s1 _ _ hsl), atI_nat (j := 0) rfl, by show 2 ≤ sizeLine; decide, fun t ht => ?_⟩
        have s2 := same_new (o := .tup [.int 3, .int r.s]) ht
        refine ⟨_, _, .tup (SqT_same s2 hpp) (.cons (.int _) (.cons (.int _) .nil)), .tup (SqT.of upd_same) (.cons (.int _) (.cons (.int _) .nil)), sh_pair, sh_pair, _, rfl, ?_⟩
        rw [eqv_pair]
        have s12 := s1.trans s2
        generalize upd H1 t (.tup [.int 3, .int r.s]) = H2 at s12
        by_cases c : hh = 3 ∧ ss = r.s
        · rw [decide_eq_true c.1, decide_eq_true c.2]
          refine iteT ⟨_, rfl, a, _, _, _, rfl, rfl, (SqT_same s12 ha), atI_nat (j := 0) rfl, rfl, _, rfl, ?_⟩
          rw [str_eqT]
          refine iteT ⟨_, rfl, 3, rfl, 5, rfl, a, _, rfl, SqT_same s12 ha, fun p3 H3 s3 hp3 => ?_⟩
          have ec2 : cutV [V.str "no", .int hh, .int ss, .int x, .str w, .int 2] (some 3) (some 5) = [.int x, .str w] := (cut_mid (m := 3) (n := 5) (by simp) (by decide)).trans rfl
          rw [ec2] at hp3
          refine ⟨by show 2 ≤ sizeLine; decide, fun t4 ht4 => ?_⟩
          have s4 := same_new (o := .tup [.int 0, .str "old"]) ht4
          refine ⟨_, _, .tup (SqT_same s4 hp3) (.cons (.int _) (.cons (.str _) .nil)), .tup (SqT.of upd_same) (.cons (.int _) (.cons (.str _) .nil)), sh_is hw, sh_is (by decide +kernel), _, rfl, ?_⟩
          rw [eqv_is]
          have s14 := (s12.trans s3).trans s4
          generalize upd H3 t4 (.tup [.int 0, .str "old"]) = H4 at s14
          by_cases c2 : x = 0 ∧ w = "old"
          · have eo : ocC (hOf r) (.no hh ss x w) = .nw := if_pos ⟨c.1, c.2, c2.1, c2.2⟩
            rw [decide_eq_true c2.1, decide_eq_true c2.2]
            have hsl4 := s14 _ _ hsl
            refine iteT ⟨_, rfl, sl, _, 0, _, rfl, rfl, SqL.of hsl4, rfl, _, _, rfl, rfl, sl, _, _, 0, rfl, rfl, hsl4, rfl, ?_⟩
            generalize hH5 : upd H4 sl _ = H5
            have hsl5 : H5 sl = some (.lst (LR.l {r with s := r.s + 1})) := by rw [← hH5]; exact upd_same
            refine ⟨_, rfl, sl, _, _, _, rfl, rfl, SqL.of hsl5, atI_nat (j := 0) rfl, by show 3 ≤ sizeLine; decide, fun t6 ht6 => ?_⟩
            have s6 := same_new (o := .tup [.str "connect", .int 3, .int (r.s + 1)]) ht6
            have nst : t6 ≠ sl := (ne_of_none hsl5 ht6).symm
            refine ⟨_, rfl, sl, _, _, 3, rfl, rfl, s6 _ _ hsl5, rfl, ?_⟩
            refine q1 eo t6 _ upd_same (by rw [upd_ne nst, upd_same]) ?_ ?_
            · intro b u e n
              have nb : b ≠ sl := by simpa using n
              rw [upd_ne nb]
              refine s6 _ _ ?_
              rw [← hH5, upd_ne nb]; exact s14 _ _ e
            · refine (((TK.of s14).trans ?_).trans (TK.of s6)).trans (tk_lst (s6 _ _ hsl5))
              rw [← hH5]; exact tk_lst hsl4
          · have EO : ocC (hOf r) (.no hh ss x w) = .no := if_neg fun z => c2 z.2.2
            rw [and_no c2]
            refine iteF ⟨_, rfl, a, _, _, _, rfl, rfl, (SqT_same s14 ha), atI_nat (j := 0) rfl, rfl, _, rfl, ?_⟩
            rw [str_eqF (show ¬ ("no" : Str) = "connected" by decide)]
            exact iteF ⟨_, rfl, sl, _, _, _, rfl, rfl, SqL.of (s14 _ _ hsl), atI_nat (j := 2) rfl, rfl, _, rfl, (by rw [hst, str_eqF (show ¬ ("connecting" : Str) = "waiting" by decide)]; exact iteF (iteF (q0 EO _ s14)))⟩
        · have EO : ocC (hOf r) (.no hh ss x w) = .no := if_neg fun z => c ⟨z.1, z.2.1⟩
          rw [and_no c]
          exact iteF ⟨_, rfl, sl, _, _, _, rfl, rfl, SqL.of (s12 _ _ hsl), atI_nat (j := 2) rfl, rfl, _, rfl, (by rw [hst, str_eqF (show ¬ ("connecting" : Str) = "waiting" by decide)]; exact iteF (iteF (q0 EO _ s12)))⟩
    rw [if_neg (show ¬ (hOf r).st = "connecting" from hst)] at q0 q1 q2 q3 q4
    rw [str_eqF hst]
    refine iteF (iteF ⟨_, rfl, sl, _, _, _, rfl, rfl, SqL.of hsl, atI_nat (j := 2) rfl, rfl, _, rfl, ?_⟩)
    by_cases hw : r.st = "waiting"
    · rw [if_pos (show (hOf r).st = "waiting" from hw)] at q0 q1 q2 q3 q4
      rw [hw, str_eqT]
      cases L with
      | conn hh ss td =>
        obtain ⟨a, tv, rfl, ha, htd⟩ := hL
        refine iteT ⟨_, rfl, 1, rfl, 4, rfl, a, _, rfl, ha, fun pp H1 s1 hpp => ?_⟩
        have ec : cutV [V.str "connected", .int hh, .int ss, tv, .int 9] (some 1) (some 4) = [.int hh, .int ss, tv] := (cut_mid (m := 1) (n := 4) (by simp) (by decide)).trans rfl
        rw [ec] at hpp
        refine ⟨_, rfl, sl, _, _, _, rfl, rfl, SqL.of (s1 _ _ hsl), atI_nat (j := 0) rfl, _, rfl, sl, _, _, _, rfl, rfl, SqL.of (s1 _ _ hsl), atI_nat (j := 1) rfl, by show 3 ≤ sizeLine; decide, fun t ht => ?_⟩
        have s2 := same_new (o := .tup [.int 3, .int r.s, .int r.cl]) ht
        obtain ⟨d, hd, gd, hne⟩ := td_dp (htd.tk (TK.of (s1.trans s2)))
        refine ⟨.tuple [.int hh, .int ss, d], _, .tup (SqT_same s2 hpp) (.cons (.int _) (.cons (.int _) (.cons hd .nil))), .tup (SqT.of upd_same) (.cons (.int _) (.cons (.int _) (.cons (.int _) .nil))), (gd_tup3 (n := 2) gd_int gd_int gd).sh (by decide), sh_three, _, rfl, ?_⟩
        have ef : PyData.eqv (.tuple [.int hh, .int ss, d]) (.tuple [.int 3, .int r.s, .int r.cl]) = false := by
          simp [PyData.eqv, PyData.eqvAll, hne]
        rw [ef]
        exact iteF (q0 rfl _ (s1.trans s2))
      | ans hh ss cc aw ax =>
        obtain ⟨a, av, rfl, ha, hav⟩ := hL
        refine iteT ⟨_, rfl, 1, rfl, 4, rfl, a, _, rfl, ha, fun pp H1 s1 hpp => ?_⟩
        have ec : cutV [V.str "answer", .int hh, .int ss, .int cc, av, .int 9] (some 1) (some 4) = [.int hh, .int ss, .int cc] := (cut_mid (m := 1) (n := 4) (by simp) (by decide)).trans rfl
        rw [ec] at hpp
        refine ⟨_, rfl, sl, _, _, _, rfl, rfl, SqL.of (s1 _ _ hsl), atI_nat (j := 0) rfl, _, rfl, sl, _, _, _, rfl, rfl, SqL.of (s1 _ _ hsl), atI_nat (j := 1) rfl, by show 3 ≤ sizeLine; decide, fun t ht => ?_⟩
        have s2 := same_new (o := .tup [.int 3, .int r.s, .int r.cl]) ht
        refine ⟨_, _, .tup (SqT_same s2 hpp) (.cons (.int _) (.cons (.int _) (.cons (.int _) .nil))), .tup (SqT.of upd_same) (.cons (.int _) (.cons (.int _) (.cons (.int _) .nil))), sh_three, sh_three, _, rfl, ?_⟩
        rw [eqv_three]
        have s12 := s1.trans s2
        generalize upd H1 t (.tup [.int 3, .int r.s, .int r.cl]) = H2 at s12
        by_cases c : hh = 3 ∧ ss = r.s ∧ cc = r.cl
        · have eo : ocW (hOf r) (.ans hh ss cc aw ax) = .ended aw ax := if_pos c
          rw [decide_eq_true c.1, decide_eq_true c.2.1, decide_eq_true c.2.2]
          obtain ⟨cv, w, rr, es, kvs, hdo, hen, n1, hke, n2, q⟩ := q3 aw ax eo
          obtain ⟨t6, y1, y2, y3, kv, e6, h6, hcv⟩ := hdo.tk (TK.of s12)
          have hsl2 := s12 _ _ hsl
          refine iteT ⟨_, rfl, a, _, _, _, rfl, rfl, (SqT_same s12 ha), atI_nat (j := 0) rfl, rfl, _, rfl, ?_⟩
          rw [str_eqT]
          refine iteT ⟨_, rfl, _, rfl, sl, _, _, _, rfl, rfl, SqL.of hsl2, atI_nat (j := 0) rfl, _, rfl, sl, _, _, _, rfl, rfl, SqL.of hsl2, atI_nat (j := 1) rfl, _, rfl, sl, _, _, _, rfl, rfl, SqL.of hsl2, atI_nat (j := 3) rfl, t6, _, _, _, e6, rfl, h6, atI_nat (j := 5) rfl, _, rfl, a, _, _, _, rfl, rfl, (SqT_same s12 ha), atI_nat (j := 4) rfl, nil_ ⟨sl, r, r.s, r.cl, cv, w, rr, av, aw, ax, es, kvs, rfl, hsl2, hcv, hav.tk (TK.of s12), s12 _ _ hen, n1, s12 _ _ hke, n2, ne1, fun t H3 ht he3 ht3 hk3 o3 tk3 => ?_⟩⟩
          have nsk : sl ≠ r.ke := ne_of hsl hke (by intro z; cases z)
          have hsl3 := o3 _ _ hsl2 (by simp [ne1, nsk])
          have nts : t ≠ sl := ne_of ht3 hsl3 (by intro z; cases z)
          refine ⟨_, rfl, sl, _, _, 2, rfl, rfl, hsl3, rfl, ?_⟩
          refine ⟨_, rfl, sl, _, _, 3, rfl, rfl, upd_same, rfl, ?_⟩
          rw [upd_upd]
          refine q t av _ upd_same (by rw [upd_ne ne1.symm]; exact he3) (by rw [upd_ne nts]; exact ht3) ((hav.tk (TK.of s12)).tk (tk3.trans (tk_lst hsl3))) (by rw [upd_ne nsk.symm]; exact hk3) ?_ (((TK.of s12).trans tk3).trans (tk_lst hsl3))
          intro b u e n
          simp only [List.mem_cons, List.not_mem_nil, or_false, not_or] at n
          rw [upd_ne n.1]; exact o3 _ _ (s12 _ _ e) (by simp [n.2.1, n.2.2])
        · rw [and_no3 c]
          exact iteF (q0 (if_neg c) H2 s12)
      | no hh ss x w =>
        obtain ⟨a, rfl, ha⟩ := hL
        refine iteT ⟨_, rfl, 1, rfl, 4, rfl, a, _, rfl, ha, fun pp H1 s1 hpp => ?_⟩
        have ec : cutV [V.str "no", .int hh, .int ss, .int x, .str w, .int 2] (some 1) (some 4) = [.int hh, .int ss, .int x] := (cut_mid (m := 1) (n := 4) (by simp) (by decide)).trans rfl
        rw [ec] at hpp
        refine ⟨_, rfl, sl, _, _, _, rfl, rfl, SqL.of (s1 _ _ hsl), atI_nat (j := 0) rfl, _, rfl, sl, _, _, _, rfl, rfl, SqL.of (s1 _ _ hsl), atI_nat (j := 1) rfl, by show 3 ≤ sizeLine; decide, fun t ht => ?_⟩
        have s2 := same_new (o := .tup [.int 3, .int r.s, .int r.cl]) ht
        refine ⟨_, _, .tup (SqT_same s2 hpp) (.cons (.int _) (.cons (.int _) (.cons (.int _) .nil))), .tup (SqT.of upd_same) (.cons (.int _) (.cons (.int _) (.cons (.int _) .nil))), sh_three, sh_three, _, rfl, ?_⟩
        rw [eqv_three]
        have s12 := s1.trans s2
        generalize upd H1 t (.tup [.int 3, .int r.s, .int r.cl]) = H2 at s12
        by_cases c : hh = 3 ∧ ss = r.s ∧ x = r.cl
        · rw [decide_eq_true c.1, decide_eq_true c.2.1, decide_eq_true c.2.2]
          refine iteT ⟨_, rfl, a, _, _, _, rfl, rfl, (SqT_same s12 ha), atI_nat (j := 0) rfl, rfl, _, rfl, ?_⟩
          rw [str_eqF (show ¬ ("no" : Str) = "answer" by decide)]
          refine iteF ⟨_, rfl, a, _, _, _, rfl, rfl, (SqT_same s12 ha), atI_nat (j := 0) rfl, rfl, _, rfl, ?_⟩
          rw [str_eqT]
          refine iteT ⟨_, rfl, a, _, _, _, rfl, rfl, (SqT_same s12 ha), atI_nat (j := 4) rfl, rfl, _, rfl, ?_⟩
          by_cases c2 : w = "lost"
          · have eo : ocW (hOf r) (.no hh ss x w) = .lost := if_pos ⟨c.1, c.2.1, c.2.2, c2⟩
            rw [c2, str_eqT]
            obtain ⟨cv, w', rr, hdo, q⟩ := q4 eo
            obtain ⟨t6, y1, y2, y3, kv, e6, h6, hcv⟩ := hdo.tk (TK.of s12)
            have hsl2 := s12 _ _ hsl
            refine iteT ⟨_, rfl, sl, _, _, _, rfl, rfl, SqL.of hsl2, atI_nat (j := 0) rfl, _, rfl, sl, _, _, _, rfl, rfl, SqL.of hsl2, atI_nat (j := 1) rfl, _, rfl, sl, _, _, _, rfl, rfl, SqL.of hsl2, atI_nat (j := 3) rfl, t6, _, _, _, e6, rfl, h6, atI_nat (j := 5) rfl, by show 3 ≤ sizeLine; decide, fun a7 h7 => ?_⟩
            have s7 := same_new (o := .tup [.int r.s, .int r.cl, cv]) h7
            have nst : a7 ≠ sl := (ne_of_none hsl2 h7).symm
            refine ⟨_, rfl, sl, _, _, 7, rfl, rfl, s7 _ _ hsl2, rfl, ?_⟩
            refine ⟨_, rfl, sl, _, _, 2, rfl, rfl, upd_same, rfl, ?_⟩
            rw [upd_upd]
            refine ⟨_, rfl, sl, _, _, 3, rfl, rfl, upd_same, rfl, ?_⟩
            rw [upd_upd]
            refine q a7 _ upd_same (by rw [upd_ne nst, upd_same]) ?_ (((TK.of s12).trans (TK.of s7)).trans (tk_lst (s7 _ _ hsl2)))
            intro b u e n
            have nb : b ≠ sl := by simpa using n
            rw [upd_ne nb]; exact s7 _ _ (s12 _ _ e)
          · rw [str_eqF c2]
            exact iteF (q0 (if_neg fun z => c2 z.2.2.2) H2 s12)
        · rw [and_no3 c]
          exact iteF (q0 (if_neg fun z => c ⟨z.1, z.2.1, z.2.2.1⟩) H2 s12)
    · rw [if_neg (show ¬ (hOf r).st = "waiting" from hw)] at q0
      rw [str_eqF hw]
      exact iteF (iteF (q0 rfl H (Same.refl H)))
end
end Sg

set_option Elab.async false
set_option linter.all false
set_option maxRecDepth 100000
set_option maxHeartbeats 4000000
namespace Sg
open PySem PySem.Spec PyProof.Rows L2
theorem ist_0 {n : Int} {ke en lo : Addr} : putF "number" (V.int n) ([] : List (Str × V)) = [(("number" : Str), V.int n)] := rfl
theorem ist_1 {n : Int} {ke en lo : Addr} : putF "session" (V.int 0) [(("number" : Str), V.int n)] = [(("number" : Str), V.int n), (("session" : Str), V.int 0)] := (put_past (by decide +kernel)).trans (congrArg _ (rfl))
theorem ist_2 {n : Int} {ke en lo : Addr} : putF "counter" (V.int 0) [(("number" : Str), V.int n), (("session" : Str), V.int 0)] = [(("number" : Str), V.int n), (("session" : Str), V.int 0), (("counter" : Str), V.int 0)] := (put_past (by decide +kernel)).trans (congrArg _ ((put_past (by decide +kernel)).trans (congrArg _ (rfl))))
theorem ist_3 {n : Int} {ke en lo : Addr} : putF "state" (V.str "new") [(("number" : Str), V.int n), (("session" : Str), V.int 0), (("counter" : Str), V.int 0)] = [(("number" : Str), V.int n), (("session" : Str), V.int 0), (("counter" : Str), V.int 0), (("state" : Str), V.str "new")] := (put_past (by decide +kernel)).trans (congrArg _ ((put_past (by decide +kernel)).trans (congrArg _ ((put_past (by decide +kernel)).trans (congrArg _ (rfl))))))
theorem ist_4 {n : Int} {ke en lo : Addr} : putF "_letter" (V.non) [(("number" : Str), V.int n), (("session" : Str), V.int 0), (("counter" : Str), V.int 0), (("state" : Str), V.str "new")] = [(("number" : Str), V.int n), (("session" : Str), V.int 0), (("counter" : Str), V.int 0), (("state" : Str), V.str "new"), (("_letter" : Str), V.non)] := (put_past (by decide +kernel)).trans (congrArg _ ((put_past (by decide +kernel)).trans (congrArg _ ((put_past (by decide +kernel)).trans (congrArg _ ((put_past (by decide +kernel)).trans (congrArg _ (rfl))))))))
theorem ist_5 {n : Int} {ke en lo : Addr} : putF "_connected" (V.int 0) [(("number" : Str), V.int n), (("session" : Str), V.int 0), (("counter" : Str), V.int 0), (("state" : Str), V.str "new"), (("_letter" : Str), V.non)] = [(("number" : Str), V.int n), (("session" : Str), V.int 0), (("counter" : Str), V.int 0), (("state" : Str), V.str "new"), (("_letter" : Str), V.non), (("_connected" : Str), V.int 0)] := (put_past (by decide +kernel)).trans (congrArg _ ((put_past (by decide +kernel)).trans (congrArg _ ((put_past (by decide +kernel)).trans (congrArg _ ((put_past (by decide +kernel)).trans (congrArg _ ((put_past (by decide +kernel)).trans (congrArg _ (rfl))))))))))
theorem ist_6 {n : Int} {ke en lo : Addr} : putF "_begun" (V.int 0) [(("number" : Str), V.int n), (("session" : Str), V.int 0), (("counter" : Str), V.int 0), (("state" : Str), V.str "new"), (("_letter" : Str), V.non), (("_connected" : Str), V.int 0)] = [(("number" : Str), V.int n), (("session" : Str), V.int 0), (("counter" : Str), V.int 0), (("state" : Str), V.str "new"), (("_letter" : Str), V.non), (("_connected" : Str), V.int 0), (("_begun" : Str), V.int 0)] := (put_past (by decide +kernel)).trans (congrArg _ ((put_past (by decide +kernel)).trans (congrArg _ ((put_past (by decide +kernel)).trans (congrArg _ ((put_past (by decide +kernel)).trans (congrArg _ ((put_past (by decide +kernel)).trans (congrArg _ ((put_past (by decide +kernel)).trans (congrArg _ (rfl))))))))))))
theorem ist_7 {n : Int} {ke en lo : Addr} : putF "_command" (V.non) [(("number" : Str), V.int n), (("session" : Str), V.int 0), (("counter" : Str), V.int 0), (("state" : Str), V.str "new"), (("_letter" : Str), V.non), (("_connected" : Str), V.int 0), (("_begun" : Str), V.int 0)] = [(("number" : Str), V.int n), (("session" : Str), V.int 0), (("counter" : Str), V.int 0), (("state" : Str), V.str "new"), (("_letter" : Str), V.non), (("_connected" : Str), V.int 0), (("_begun" : Str), V.int 0), (("_command" : Str), V.non)] := (put_past (by decide +kernel)).trans (congrArg _ ((put_past (by decide +kernel)).trans (congrArg _ ((put_past (by decide +kernel)).trans (congrArg _ ((put_past (by decide +kernel)).trans (congrArg _ ((put_past (by decide +kernel)).trans (congrArg _ ((put_past (by decide +kernel)).trans (congrArg _ ((put_past (by decide +kernel)).trans (congrArg _ (rfl))))))))))))))
theorem ist_8 {n : Int} {ke en lo : Addr} : putF "_keys" (V.ref ke) [(("number" : Str), V.int n), (("session" : Str), V.int 0), (("counter" : Str), V.int 0), (("state" : Str), V.str "new"), (("_letter" : Str), V.non), (("_connected" : Str), V.int 0), (("_begun" : Str), V.int 0), (("_command" : Str), V.non)] = [(("number" : Str), V.int n), (("session" : Str), V.int 0), (("counter" : Str), V.int 0), (("state" : Str), V.str "new"), (("_letter" : Str), V.non), (("_connected" : Str), V.int 0), (("_begun" : Str), V.int 0), (("_command" : Str), V.non), (("_keys" : Str), V.ref ke)] := (put_past (by decide +kernel)).trans (congrArg _ ((put_past (by decide +kernel)).trans (congrArg _ ((put_past (by decide +kernel)).trans (congrArg _ ((put_past (by decide +kernel)).trans (congrArg _ ((put_past (by decide +kernel)).trans (congrArg _ ((put_past (by decide +kernel)).trans (congrArg _ ((put_past (by decide +kernel)).trans (congrArg _ ((put_past (by decide +kernel)).trans (congrArg _ (rfl))))))))))))))))
theorem ist_9 {n : Int} {ke en lo : Addr} : putF "_ended" (V.ref en) [(("number" : Str), V.int n), (("session" : Str), V.int 0), (("counter" : Str), V.int 0), (("state" : Str), V.str "new"), (("_letter" : Str), V.non), (("_connected" : Str), V.int 0), (("_begun" : Str), V.int 0), (("_command" : Str), V.non), (("_keys" : Str), V.ref ke)] = [(("number" : Str), V.int n), (("session" : Str), V.int 0), (("counter" : Str), V.int 0), (("state" : Str), V.str "new"), (("_letter" : Str), V.non), (("_connected" : Str), V.int 0), (("_begun" : Str), V.int 0), (("_command" : Str), V.non), (("_keys" : Str), V.ref ke), (("_ended" : Str), V.ref en)] := (put_past (by decide +kernel)).trans (congrArg _ ((put_past (by decide +kernel)).trans (congrArg _ ((put_past (by decide +kernel)).trans (congrArg _ ((put_past (by decide +kernel)).trans (congrArg _ ((put_past (by decide +kernel)).trans (congrArg _ ((put_past (by decide +kernel)).trans (congrArg _ ((put_past (by decide +kernel)).trans (congrArg _ ((put_past (by decide +kernel)).trans (congrArg _ ((put_past (by decide +kernel)).trans (congrArg _ (rfl))))))))))))))))))
theorem ist_10 {n : Int} {ke en lo : Addr} : putF "_lost" (V.ref lo) [(("number" : Str), V.int n), (("session" : Str), V.int 0), (("counter" : Str), V.int 0), (("state" : Str), V.str "new"), (("_letter" : Str), V.non), (("_connected" : Str), V.int 0), (("_begun" : Str), V.int 0), (("_command" : Str), V.non), (("_keys" : Str), V.ref ke), (("_ended" : Str), V.ref en)] = [(("number" : Str), V.int n), (("session" : Str), V.int 0), (("counter" : Str), V.int 0), (("state" : Str), V.str "new"), (("_letter" : Str), V.non), (("_connected" : Str), V.int 0), (("_begun" : Str), V.int 0), (("_command" : Str), V.non), (("_keys" : Str), V.ref ke), (("_ended" : Str), V.ref en), (("_lost" : Str), V.ref lo)] := (put_past (by decide +kernel)).trans (congrArg _ ((put_past (by decide +kernel)).trans (congrArg _ ((put_past (by decide +kernel)).trans (congrArg _ ((put_past (by decide +kernel)).trans (congrArg _ ((put_past (by decide +kernel)).trans (congrArg _ ((put_past (by decide +kernel)).trans (congrArg _ ((put_past (by decide +kernel)).trans (congrArg _ ((put_past (by decide +kernel)).trans (congrArg _ ((put_past (by decide +kernel)).trans (congrArg _ ((put_past (by decide +kernel)).trans (congrArg _ (rfl))))))))))))))))))))
def spInit (C : Addr) : Sp := fun vs H Q _ => ∃ p dx n, vs = [.ref p, .int n] ∧ H p = some (.ins C dx []) ∧ ∀ ke en lo H', HAt C H' p ⟨n, 0, 0, "new", .non, 0, 0, .non, ke, en, lo⟩ → H' ke = some (.dK []) → H' en = some (.lst []) → H' lo = some (.lst []) → H ke = none → H en = none → H lo = none → en ≠ lo → Off [p] H H' → Q .non H'
def spLBegin (K : PySem.W.Frag) : Sp := fun vs H Q _ => ∃ tp q sl r kvs, vs = [.ref tp, .ref sl] ∧ TapeQ K H tp q ∧ H sl = some (.lst (LR.l r)) ∧ H r.ke = some (.dK kvs) ∧ sl ≠ tp ∧ q ≠ sl ∧
  ∀ u cv w rr H', CmdV K H' cv w rr → TapeQ K H' tp q → TK H H' → Off [tp, sl] H H' →
    ((r.st = "new" ∧ ∃ t, H' u = some (.tup [cv, .ref t]) ∧ H' sl = some (.lst (LR.l {r with s := r.s + 1, st := "connecting", le := .ref t})) ∧ H' t = some (.tup [.str "connect", .int 3, .int (r.s + 1)])) ∨
     (r.st = "idle" ∧ ∃ t, H' u = some (.tup [cv, .ref t]) ∧ H' sl = some (.lst (LR.l {r with cl := r.cl + 1, st := "waiting", le := .ref t})) ∧ H' t = some (.tup [.str "do", .int 3, .int r.s, .int (r.cl + 1), keyFor kvs w, cv])) ∨
     (¬ r.st = "new" ∧ ¬ r.st = "idle" ∧ H' u = some (.tup [cv, .non]) ∧ H' sl = some (.lst (LR.l r)))) → Q (.ref u) H'
section
variable {P : Program} {wd : World} {K : PySem.W.Frag} {mg : Str → Option Value} {base : Heap} {f f1 C : Addr} {fd fd1 : FuncData}
theorem scInit : FnScope ["self", "number"] ["self", "number"] (defScope (cH 0)) := ⟨rfl, rfl, rfl, by decide +kernel, rfl, by decide +kernel, by decide +kernel⟩
theorem ok_init (F : Fun K "__init__" "Host.__init__" (cH 0) f fd) (Tx : HT5 K mg C) : FnOk P wd K mg base CX0 1 f fd ["self", "number"] (spInit C) := by
  refine F.ok scInit (fun vs H Q E h => ?_) (fun cdv A outer s H vs Q E hr h => ?_)
  · obtain ⟨p, dx, n, rfl, _⟩ := h
    rfl
  · obtain ⟨p, dx, n, rfl, hp, q⟩ := h
    refine ⟨_, (pss_cons (ps_fld (pv 0) (pv 1) rfl)
      (pss_cons (ps_fld (pv 0) pe_int rfl)
      (pss_cons (ps_fld (pv 0) pe_int rfl)
      (pss_cons (ps_fld (pv 0) pe_str rfl)
      (pss_cons (ps_fld (pv 0) pe_non rfl)
      (pss_cons (ps_fld (pv 0) pe_int rfl)
      (pss_cons (ps_fld (pv 0) pe_int rfl)
      (pss_cons (ps_fld (pv 0) pe_non rfl)
      (pss_cons (ps_fld (pv 0) pe_dnewK rfl)
      (pss_cons (ps_fld (pv 0) (pe_lst pa_nil) rfl)
      (pss_one (ps_fld (pv 0) (pe_lst pa_nil) rfl)))))))))))), ?_⟩
    refine ⟨_, rfl, _, rfl, p, C, dx, _, rfl, hp, Tx.cl, Tx.k_n, (by show 0 < 1000; decide), ?_⟩
    refine ⟨_, rfl, p, C, dx, _, rfl, upd_same, Tx.cl, Tx.k_s, (by show 1 < 1000; decide), ?_⟩
    rw [upd_upd]
    refine ⟨_, rfl, p, C, dx, _, rfl, upd_same, Tx.cl, Tx.k_c, (by show 2 < 1000; decide), ?_⟩
    rw [upd_upd]
    refine ⟨_, rfl, p, C, dx, _, rfl, upd_same, Tx.cl, Tx.k_st, (by show 3 < 1000; decide), ?_⟩
    rw [upd_upd]
    refine ⟨_, rfl, p, C, dx, _, rfl, upd_same, Tx.cl, Tx.k_le, (by show 4 < 1000; decide), ?_⟩
    rw [upd_upd]
    refine ⟨_, rfl, p, C, dx, _, rfl, upd_same, Tx.cl, Tx.k_co, (by show 5 < 1000; decide), ?_⟩
    rw [upd_upd]
    refine ⟨_, rfl, p, C, dx, _, rfl, upd_same, Tx.cl, Tx.k_be, (by show 6 < 1000; decide), ?_⟩
    rw [upd_upd]
    refine ⟨_, rfl, p, C, dx, _, rfl, upd_same, Tx.cl, Tx.k_cm, (by show 7 < 1000; decide), ?_⟩
    rw [upd_upd]
    generalize hH1 : upd H p (.ins C dx _) = H1
    have hp1 : H1 p = some (.ins C dx [(("number" : Str), V.int n), (("session" : Str), V.int 0), (("counter" : Str), V.int 0), (("state" : Str), V.str "new"), (("_letter" : Str), V.non), (("_connected" : Str), V.int 0), (("_begun" : Str), V.int 0), (("_command" : Str), V.non)]) := by
      rw [← hH1, upd_same, ist_0 (ke := p) (en := p) (lo := p), ist_1 (n := n) (ke := p) (en := p) (lo := p), ist_2 (n := n) (ke := p) (en := p) (lo := p), ist_3 (n := n) (ke := p) (en := p) (lo := p), ist_4 (n := n) (ke := p) (en := p) (lo := p), ist_5 (n := n) (ke := p) (en := p) (lo := p), ist_6 (n := n) (ke := p) (en := p) (lo := p), ist_7 (n := n) (ke := p) (en := p) (lo := p)]
    have o1 : Off [p] H H1 := by rw [← hH1]; exact Off.upd (by simp)
    clear hH1
    refine fun ke hke => ?_
    have n1 : p ≠ ke := ne_of_none hp1 hke
    refine ⟨_, rfl, p, C, dx, _, rfl, (by rw [upd_ne n1]; exact hp1), Tx.cl, Tx.k_ke, (by show 8 < 1000; decide), ?_⟩
    rw [ist_8 (n := n) (ke := ke) (en := p) (lo := p)]
    generalize hH2 : upd (upd H1 ke (.dK [])) p (.ins C dx _) = H2
    have hp2 : H2 p = some (.ins C dx [(("number" : Str), V.int n), (("session" : Str), V.int 0), (("counter" : Str), V.int 0), (("state" : Str), V.str "new"), (("_letter" : Str), V.non), (("_connected" : Str), V.int 0), (("_begun" : Str), V.int 0), (("_command" : Str), V.non), (("_keys" : Str), V.ref ke)]) := by rw [← hH2, upd_same]
    have hk2 : H2 ke = some (.dK []) := by rw [← hH2, upd_ne n1.symm, upd_same]
    have fr : ∀ {Hx : Hp} {x : Addr}, Hx x = none → (∀ b o, H b = some o → b ≠ p → Hx b = some o) → x ≠ p → H x = none := fun hx ho nx => by
      rename_i Hx x
      cases e : H x with
      | none => rfl
      | some ob => rw [ho _ _ e nx] at hx; cases hx
    have p1 : ∀ b o, H b = some o → b ≠ p → H1 b = some o := fun b o e nb => o1 _ _ e (by simpa using nb)
    have hkH := fr hke p1 n1.symm
    have p2 : ∀ b o, H b = some o → b ≠ p → H2 b = some o := fun b o e nb => by rw [← hH2, upd_ne nb, upd_ne (ne_of_none e hkH)]; exact p1 _ _ e nb
    clear hH2
    refine ⟨by show 0 ≤ sizeLine; decide, fun en hen => ?_⟩
    have n2 : p ≠ en := ne_of_none hp2 hen
    refine ⟨_, rfl, p, C, dx, _, rfl, (by rw [upd_ne n2]; exact hp2), Tx.cl, Tx.k_en, (by show 9 < 1000; decide), ?_⟩
    rw [ist_9 (n := n) (ke := ke) (en := en) (lo := p)]
    have nke : ke ≠ en := ne_of_none hk2 hen
    generalize hH3 : upd (upd H2 en (.lst [])) p (.ins C dx _) = H3
    have hp3 : H3 p = some (.ins C dx [(("number" : Str), V.int n), (("session" : Str), V.int 0), (("counter" : Str), V.int 0), (("state" : Str), V.str "new"), (("_letter" : Str), V.non), (("_connected" : Str), V.int 0), (("_begun" : Str), V.int 0), (("_command" : Str), V.non), (("_keys" : Str), V.ref ke), (("_ended" : Str), V.ref en)]) := by rw [← hH3, upd_same]
    have he3 : H3 en = some (.lst []) := by rw [← hH3, upd_ne n2.symm, upd_same]
    have hk3 : H3 ke = some (.dK []) := by rw [← hH3, upd_ne n1.symm, upd_ne nke]; exact hk2
    have heH := fr hen p2 n2.symm
    have p3 : ∀ b o, H b = some o → b ≠ p → H3 b = some o := fun b o e nb => by rw [← hH3, upd_ne nb, upd_ne (ne_of_none e heH)]; exact p2 _ _ e nb
    clear hH3
    refine ⟨by show 0 ≤ sizeLine; decide, fun lo hlo => ?_⟩
    have n3 : p ≠ lo := ne_of_none hp3 hlo
    refine ⟨_, rfl, p, C, dx, _, rfl, (by rw [upd_ne n3]; exact hp3), Tx.cl, Tx.k_lo, (by show 10 < 1000; decide), ?_⟩
    rw [ist_10 (n := n) (ke := ke) (en := en) (lo := lo)]
    have nkl : ke ≠ lo := ne_of_none hk3 hlo
    have nel : en ≠ lo := ne_of_none he3 hlo
    have hlH := fr hlo p3 n3.symm
    refine q ke en lo _ ⟨dx, upd_same⟩ ?_ ?_ ?_ hkH heH hlH nel ?_
    · rw [upd_ne n1.symm, upd_ne nkl]; exact hk3
    · rw [upd_ne n2.symm, upd_ne nel]; exact he3
    · rw [upd_ne n3.symm, upd_same]
    · intro b u e nb
      have nb' : b ≠ p := by simpa using nb
      rw [upd_ne nb', upd_ne (ne_of_none e hlH)]; exact p3 _ _ e nb'
theorem scLBegin : FnScope ["tape", "state", "command", "key"] ["tape", "state"] (defScope sLBegin) := ⟨rfl, rfl, rfl, by decide +kernel, rfl, by decide +kernel, by decide +kernel⟩
theorem ok_lbegin (F : Fun K "_law_begin" "_law_begin" sLBegin f fd) (GN : Def P wd K mg base CX0 "_law_next" 1 ["tape", "many"] (spNext K) f1 fd1) : FnOk P wd K mg base CX0 2 f fd ["tape", "state"] (spLBegin K) := by
  refine F.ok scLBegin (fun vs H Q E h => ?_) (fun cdv A outer s H vs Q E hr h => ?_)
  · obtain ⟨tp, q, sl, r, kvs, rfl, _⟩ := h
    rfl
  · obtain ⟨tp, q, sl, r, kvs, rfl, t0, hsl, hke, nsl, nqs, k⟩ := h
    refine ⟨_, (pss_cons (ps_set (i := 2) scLBegin.nd rfl (Or.inl rfl) (pe_ix ix_list (pe_lst (pa_cons (pe_tup (pa_cons pe_str (pa_cons pe_int pa_nil))) (pa_cons (pe_tup (pa_cons pe_str (pa_cons pe_int (pa_cons pe_int (pa_cons pe_int pa_nil))))) (pa_cons (pe_tup (pa_cons pe_str (pa_cons pe_int (pa_cons pe_int pa_nil)))) (pa_cons (pe_tup (pa_cons pe_str (pa_cons pe_int pa_nil))) (pa_cons (pe_tup (pa_cons pe_str pa_nil)) (pa_cons (pe_tup (pa_cons pe_str (pa_cons pe_int pa_nil))) pa_nil))))))) (pe_call GN.ok hr (by rfl) GN.mg GN.kp GN.bd .nil pass0 (pa_cons (pv 0) (pa_cons pe_int pa_nil))) (fun _ _ => rfl)))
      (pss_cons (ps_if (pt_cmpR op_eq (pe_ix ix_list (pv 1) pe_int (fun _ _ => rfl)) pe_str (nomark _))
      (pss_cons (ps_augS (pv 1) pe_int get_list pe_int ip_add set_list)
      (pss_cons (ps_asg pe_str (pg_sub (pv 1) pe_int set_list))
      (pss_one (ps_asg (pe_tup (pa_cons pe_str (pa_cons pe_int (pa_cons (pe_ix ix_list (pv 1) pe_int (fun _ _ => rfl)) pa_nil)))) (pg_sub (pv 1) pe_int set_list))))) (pss_one (ps_if (pt_cmpR op_eq (pe_ix ix_list (pv 1) pe_int (fun _ _ => rfl)) pe_str (nomark _))
      (pss_cons (ps_augS (pv 1) pe_int get_list pe_int ip_add set_list)
      (pss_cons (ps_asg pe_str (pg_sub (pv 1) pe_int set_list))
      (pss_cons (ps_set (i := 3) scLBegin.nd rfl (Or.inl rfl) (pe_dget1 (hu_of hr) (pe_ix ix_list (pv 1) pe_int (fun _ _ => rfl)) pe_int ⟨rfl, rfl, rfl, rfl⟩))
      (Evl.pss_cut (ps_if (pt_cmpR op_in_seq (pe_ix ix_tup (pv 2) pe_int (fun _ _ => rfl)) (pe_tup (pa_cons pe_str (pa_cons pe_str (pa_cons pe_str pa_nil)))) (by rfl))
      (pss_one (ps_set (i := 3) scLBegin.nd rfl (Or.inl rfl) pe_non)) pss_nil)
      (pss_one (ps_asg (pe_tup (pa_cons pe_str (pa_cons pe_int (pa_cons (pe_ix ix_list (pv 1) pe_int (fun _ _ => rfl)) (pa_cons (pe_ix ix_list (pv 1) pe_int (fun _ _ => rfl)) (pa_cons (pv 3) (pa_cons (pv 2) pa_nil))))))) (pg_sub (pv 1) pe_int set_list))))))) (pss_one (ps_ret (pe_tup (pa_cons (pv 2) (pa_cons pe_non pa_nil))))))))
      (pss_one (ps_ret (pe_tup (pa_cons (pv 2) (pa_cons (pe_ix ix_list (pv 1) pe_int (fun _ _ => rfl)) pa_nil))))))), ?_⟩
    refine ⟨by show 2 ≤ sizeLine; decide, fun c0 hc0 => ⟨by show 4 ≤ sizeLine; decide, fun c1 hc1 => ⟨by show 3 ≤ sizeLine; decide, fun c2 hc2 => ⟨by show 2 ≤ sizeLine; decide, fun c3 hc3 => ⟨by show 1 ≤ sizeLine; decide, fun c4 hc4 => ⟨by show 2 ≤ sizeLine; decide, fun c5 hc5 => ⟨by show 6 ≤ sizeLine; decide, fun l hl => ?_⟩⟩⟩⟩⟩⟩⟩
    have s0 := same_new (o := .tup [.str "register", .int 2]) hc0
    have e0 : (upd H c0 (.tup [.str "register", .int 2])) c0 = some (.tup [.str "register", .int 2]) := upd_same
    generalize upd H c0 (.tup [.str "register", .int 2]) = G0 at s0 e0 hc1 hc2 hc3 hc4 hc5 hl
    have s1 := same_new (o := .tup [.str "write", .int 2, .int 1, .int 5]) hc1
    have e1 : (upd G0 c1 (.tup [.str "write", .int 2, .int 1, .int 5])) c1 = some (.tup [.str "write", .int 2, .int 1, .int 5]) := upd_same
    generalize upd G0 c1 (.tup [.str "write", .int 2, .int 1, .int 5]) = G1 at s1 e1 hc2 hc3 hc4 hc5 hl
    have s2 := same_new (o := .tup [.str "make", .int 2, .int 9]) hc2
    have e2 : (upd G1 c2 (.tup [.str "make", .int 2, .int 9])) c2 = some (.tup [.str "make", .int 2, .int 9]) := upd_same
    generalize upd G1 c2 (.tup [.str "make", .int 2, .int 9]) = G2 at s2 e2 hc3 hc4 hc5 hl
    have s3 := same_new (o := .tup [.str "leave", .int 2]) hc3
    have e3 : (upd G2 c3 (.tup [.str "leave", .int 2])) c3 = some (.tup [.str "leave", .int 2]) := upd_same
    generalize upd G2 c3 (.tup [.str "leave", .int 2]) = G3 at s3 e3 hc4 hc5 hl
    have s4 := same_new (o := .tup [.str "flush"]) hc4
    have e4 : (upd G3 c4 (.tup [.str "flush"])) c4 = some (.tup [.str "flush"]) := upd_same
    generalize upd G3 c4 (.tup [.str "flush"]) = G4 at s4 e4 hc5 hl
    have s5 := same_new (o := .tup [.str "remove", .int 2]) hc5
    have e5 : (upd G4 c5 (.tup [.str "remove", .int 2])) c5 = some (.tup [.str "remove", .int 2]) := upd_same
    generalize upd G4 c5 (.tup [.str "remove", .int 2]) = G5 at s5 e5 hl
    have f0 := s5 _ _ (s4 _ _ (s3 _ _ (s2 _ _ (s1 _ _ (e0)))))
    have f1 := s5 _ _ (s4 _ _ (s3 _ _ (s2 _ _ (e1))))
    have f2 := s5 _ _ (s4 _ _ (s3 _ _ (e2)))
    have f3 := s5 _ _ (s4 _ _ (e3))
    have f4 := s5 _ _ (e4)
    have f5 := e5
    have sG : Same H G5 := ((((s0.trans s1).trans s2).trans s3).trans s4).trans s5
    refine pickL (es := [.ref c0, .ref c1, .ref c2, .ref c3, .ref c4, .ref c5]) (j := 0) (t0.same sG) hl (by simp) (by simp) (fun z H1 hz o1 t1 k1 => ?_) (fun H1 Q1 h => ⟨_, rfl, h⟩)
    obtain ⟨w, rr, hcv⟩ : ∃ w rr, CmdV K H1 z w rr := by
      simp only [List.mem_cons, List.not_mem_nil, or_false] at hz
      rcases hz with rfl | rfl | rfl | rfl | rfl | rfl
      · exact ⟨"register", [2], c0, rfl, SqT.of (k1.t _ _ f0), by decide⟩
      · exact ⟨"write", [2, 1, 5], c1, rfl, SqT.of (k1.t _ _ f1), by decide⟩
      · exact ⟨"make", [2, 9], c2, rfl, SqT.of (k1.t _ _ f2), by decide⟩
      · exact ⟨"leave", [2], c3, rfl, SqT.of (k1.t _ _ f3), by decide⟩
      · exact ⟨"flush", [], c4, rfl, SqT.of (k1.t _ _ f4), by decide⟩
      · exact ⟨"remove", [2], c5, rfl, SqT.of (k1.t _ _ f5), by decide⟩
    have hsl1 := o1 _ _ (sG _ _ hsl) (by simpa using nsl)
    have nkt : r.ke ≠ tp := by
      obtain ⟨x, hx⟩ := t0.lst
      exact ne_of hke hx (by intro z; cases z)
    have hke1 := o1 _ _ (sG _ _ hke) (by simpa using nkt)
    have O1 : Off [tp, sl] H H1 := fun b u e n => o1 _ _ (sG _ _ e) (by simp at n; simp [n])
    have K1 : TK H H1 := (TK.of sG).trans k1
    have tape' : ∀ {Hx Hy : Hp}, TapeQ K Hx tp q → Off [sl] Hx Hy → TapeQ K Hy tp q := fun t o => t.off o (by simpa using nsl.symm) (by simpa using nqs)
    obtain ⟨za, rfl, hza, hm⟩ := id hcv
    refine ⟨_, rfl, sl, _, _, _, rfl, rfl, SqL.of hsl1, atI_nat (j := 2) rfl, rfl, _, rfl, ?_⟩
    by_cases c1 : r.st = "new"
    · rw [c1, str_eqT]
      refine iteT ⟨_, rfl, sl, _, 0, _, rfl, rfl, SqL.of hsl1, rfl, _, _, rfl, rfl, sl, _, _, 0, rfl, rfl, hsl1, rfl, ?_⟩
      refine ⟨_, rfl, sl, _, _, 2, rfl, rfl, upd_same, rfl, ?_⟩
      rw [upd_upd]
      generalize hH5 : upd H1 sl _ = H5
      have hsl5 : H5 sl = some (.lst (LR.l {r with s := r.s + 1, st := "connecting"})) := by rw [← hH5]; exact upd_same
      have o5 : Off [sl] H1 H5 := by rw [← hH5]; exact Off.upd (by simp)
      have k5 : TK H1 H5 := by rw [← hH5]; exact tk_lst hsl1
      clear hH5
      refine ⟨_, rfl, sl, _, _, _, rfl, rfl, SqL.of hsl5, atI_nat (j := 0) rfl, by show 3 ≤ sizeLine; decide, fun t6 ht6 => ?_⟩
      have s6 := same_new (o := .tup [.str "connect", .int 3, .int (r.s + 1)]) ht6
      have e6 : (upd H5 t6 (.tup [.str "connect", .int 3, .int (r.s + 1)])) t6 = some (.tup [.str "connect", .int 3, .int (r.s + 1)]) := upd_same
      have nst : t6 ≠ sl := (ne_of_none hsl5 ht6).symm
      refine ⟨_, rfl, sl, _, _, 3, rfl, rfl, s6 _ _ hsl5, rfl, ?_⟩
      generalize hH7 : upd (upd H5 t6 (.tup [.str "connect", .int 3, .int (r.s + 1)])) sl _ = H7
      have hsl7 : H7 sl = some (.lst (LR.l {r with s := r.s + 1, st := "connecting", le := .ref t6})) := by rw [← hH7]; exact upd_same
      have e7 : H7 t6 = some (.tup [.str "connect", .int 3, .int (r.s + 1)]) := by rw [← hH7, upd_ne nst]; exact e6
      have o7 : Off [sl] H5 H7 := by rw [← hH7]; exact (Off.of s6).trans (Off.upd (by simp))
      have k7 : TK H5 H7 := by rw [← hH7]; exact (TK.of s6).trans (tk_lst (s6 _ _ hsl5))
      clear hH7
      refine ⟨_, rfl, _, rfl, sl, _, _, _, rfl, rfl, SqL.of hsl7, atI_nat (j := 3) rfl, by show 2 ≤ sizeLine; decide, fun u hu => ?_⟩
      have s8 := same_new (o := .tup [.ref za, .ref t6]) hu
      have k17 := k5.trans k7
      refine k u (.ref za) w rr _ (hcv.tk (k17.trans (TK.of s8))) ((tape' (tape' t1 o5) o7).same s8) ((K1.trans k17).trans (TK.of s8)) ((O1.trans (fun b u e n => o7 _ _ (o5 _ _ e (by simp at n; simp [n])) (by simp at n; simp [n]))).trans (Off.of s8)) (.inl ⟨c1, t6, upd_same, s8 _ _ hsl7, s8 _ _ e7⟩)
    rw [str_eqF c1]
    refine iteF ⟨_, rfl, sl, _, _, _, rfl, rfl, SqL.of hsl1, atI_nat (j := 2) rfl, rfl, _, rfl, ?_⟩
    by_cases c2 : r.st = "idle"
    · rw [c2, str_eqT]
      refine iteT ⟨_, rfl, sl, _, 1, _, rfl, rfl, SqL.of hsl1, rfl, _, _, rfl, rfl, sl, _, _, 1, rfl, rfl, hsl1, rfl, ?_⟩
      refine ⟨_, rfl, sl, _, _, 2, rfl, rfl, upd_same, rfl, ?_⟩
      rw [upd_upd]
      generalize hH5 : upd H1 sl _ = H5
      have hsl5 : H5 sl = some (.lst (LR.l {r with cl := r.cl + 1, st := "waiting"})) := by rw [← hH5]; exact upd_same
      have o5 : Off [sl] H1 H5 := by rw [← hH5]; exact Off.upd (by simp)
      have k5 : TK H1 H5 := by rw [← hH5]; exact tk_lst hsl1
      clear hH5
      have nsk : r.ke ≠ sl := ne_of hke1 hsl1 (by intro z; cases z)
      have hke5 := o5 _ _ hke1 (by simpa using nsk)
      -- key
      refine ⟨_, rfl, sl, _, _, _, rfl, rfl, SqL.of hsl5, atI_nat (j := 6) rfl, _, rfl, .inl ⟨kvs, .inl hke5⟩, _, dget hke5, ?_⟩
      have hz5 := sqT_tk hza k5
      refine ⟨fun σ H' => σ = [some (.ref tp), some (.ref sl), some (.ref za), some (keyFor kvs w)] ∧ Same H5 H', ?_, ?_⟩
      · refine ⟨_, rfl, za, _, _, _, rfl, rfl, hz5, atI_nat (j := 0) rfl, by show 3 ≤ sizeLine; decide, fun t2 ht2 => ?_⟩
        generalize hH6 : upd H5 t2 _ = H6
        have s6 : Same H5 H6 := by rw [← hH6]; exact same_new ht2
        have ht6 : H6 t2 = some (.tup ((["register", "make", "flush"] : List Str).map V.str)) := by rw [← hH6]; exact upd_same
        refine ⟨t2, _, rfl, .inr (SqT.of ht6), rfl, flat_strs, _, rfl, ?_⟩
        rw [inV_str]
        have es : strIn w ["register", "make", "flush"] = strIn w ["make", "register", "flush"] := by
          simp only [strIn, List.any_cons, List.any_nil, Bool.or_false]
          exact Bool.or_left_comm _ _ _
        rw [es]
        unfold keyFor
        cases e3 : strIn w ["make", "register", "flush"] with
        | true => exact iteT ⟨rfl, s6⟩
        | false => exact iteF ⟨rfl, s6⟩
      rintro σ H6 ⟨rfl, s56⟩
      have hsl6 := s56 _ _ hsl5
      refine ⟨_, rfl, sl, _, _, _, rfl, rfl, SqL.of hsl6, atI_nat (j := 0) rfl, _, rfl, sl, _, _, _, rfl, rfl, SqL.of hsl6, atI_nat (j := 1) rfl, _, rfl, _, rfl, by show 6 ≤ sizeLine; decide, fun t6 ht6 => ?_⟩
      have s6 := same_new (o := .tup [.str "do", .int 3, .int r.s, .int (r.cl + 1), keyFor kvs w, .ref za]) ht6
      have e6 : (upd H6 t6 (.tup [.str "do", .int 3, .int r.s, .int (r.cl + 1), keyFor kvs w, .ref za])) t6 = some (.tup [.str "do", .int 3, .int r.s, .int (r.cl + 1), keyFor kvs w, .ref za]) := upd_same
      have nst : t6 ≠ sl := (ne_of_none hsl6 ht6).symm
      refine ⟨_, rfl, sl, _, _, 3, rfl, rfl, s6 _ _ hsl6, rfl, ?_⟩
      generalize hH7 : upd (upd H6 t6 (.tup [.str "do", .int 3, .int r.s, .int (r.cl + 1), keyFor kvs w, .ref za])) sl _ = H7
      have hsl7 : H7 sl = some (.lst (LR.l {r with cl := r.cl + 1, st := "waiting", le := .ref t6})) := by rw [← hH7]; exact upd_same
      have e7 : H7 t6 = some (.tup [.str "do", .int 3, .int r.s, .int (r.cl + 1), keyFor kvs w, .ref za]) := by rw [← hH7, upd_ne nst]; exact e6
      have o7 : Off [sl] H5 H7 := by rw [← hH7]; exact ((Off.of s56).trans (Off.of s6)).trans (Off.upd (by simp))
      have k7 : TK H5 H7 := by rw [← hH7]; exact ((TK.of s56).trans (TK.of s6)).trans (tk_lst (s6 _ _ hsl6))
      clear hH7
      refine ⟨_, rfl, _, rfl, sl, _, _, _, rfl, rfl, SqL.of hsl7, atI_nat (j := 3) rfl, by show 2 ≤ sizeLine; decide, fun u hu => ?_⟩
      have s8 := same_new (o := .tup [.ref za, .ref t6]) hu
      have k17 := k5.trans k7
      refine k u (.ref za) w rr _ (hcv.tk (k17.trans (TK.of s8))) ((tape' (tape' t1 o5) o7).same s8) ((K1.trans k17).trans (TK.of s8)) ((O1.trans (fun b u e n => o7 _ _ (o5 _ _ e (by simp at n; simp [n])) (by simp at n; simp [n]))).trans (Off.of s8)) (.inr (.inl ⟨c2, t6, upd_same, s8 _ _ hsl7, s8 _ _ e7⟩))
    rw [str_eqF c2]
    refine iteF ⟨_, rfl, by show 2 ≤ sizeLine; decide, fun u hu => ?_⟩
    have s8 := same_new (o := .tup [.ref za, .non]) hu
    exact k u (.ref za) w rr _ (hcv.tk (TK.of s8)) (t1.same s8) (K1.trans (TK.of s8)) (O1.trans (Off.of s8)) (.inr (.inr ⟨c1, c2, upd_same, s8 _ _ hsl1⟩))
end
end Sg

set_option Elab.async false
set_option linter.all false
set_option maxRecDepth 100000
set_option maxHeartbeats 8000000
namespace Sg
open PySem PySem.Spec PyProof.Rows L2
def spLaw (K : PySem.W.Frag) : Sp := fun vs H Q _ => ∃ (a : Addr) (ns : List Int), vs = [.ref a] ∧ SqL K H a (ns.map V.int) ∧ ns.length ≤ 63 ∧ ∀ H', Q (.bl true) H'
def vD : V → PyData
  | .int i => .int i
  | _ => .none
def cmdD (w : Str) (r : List Int) : PyData := .tuple (.str w :: r.map PyData.int)
def ansD (w : Str) (x : V) : PyData := .tuple [.str w, vD x]
theorem fl_dp {K : PySem.W.Frag} {H : Hp} {x : V} (h : flN x) : Dp K H x (vD x) ∧ ∀ n, GD n (vD x) := by
  rcases h with rfl | ⟨i, rfl⟩
  · exact ⟨.non, fun n => gd_none⟩
  · exact ⟨.int i, fun n => gd_int⟩
theorem gd_str {n : Nat} {w : Str} (h : PyData.strOk w = true) : GD n (.str w) := ⟨rfl, by simpa [PyData.canLay0] using h, by simp [PyData.depth]⟩
theorem ans_d {K : PySem.W.Frag} {H : Hp} {v x : V} {w : Str} (h : AnsV K H v w x) : Dp K H v (ansD w x) ∧ GD 1 (ansD w x) := by
  obtain ⟨a, rfl, h1, h2, h3⟩ := h
  exact ⟨.tup h1 (.cons (.str _) (.cons (fl_dp h3).1 .nil)), gd_tup2 (gd_str h2) ((fl_dp (K := K) (H := H) h3).2 0)⟩
theorem ints_dp {K : PySem.W.Frag} {H : Hp} : ∀ {ns : List Int}, DpAll K H (ns.map V.int) (ns.map PyData.int)
  | [] => .nil
  | n :: ns => .cons (.int n) ints_dp
theorem cmd_d {K : PySem.W.Frag} {H : Hp} {v : V} {w : Str} {r : List Int} (h : CmdV K H v w r) : Dp K H v (cmdD w r) ∧ GD 1 (cmdD w r) := by
  obtain ⟨a, rfl, h1, h2⟩ := h
  refine ⟨.tup h1 (.cons (.str _) ints_dp), ?_⟩
  have hs : ∀ p ∈ cmds6, PyData.strOk p.1 = true := by decide +kernel
  have hw := hs _ h2
  have hi : ∀ l : List Int, tupOs (l.map PyData.int) = true ∧ PyData.canLayAll0 (l.map PyData.int) = true ∧ PyData.depthAll (l.map PyData.int) = 0 := by
    intro l
    induction l with
    | nil => exact ⟨rfl, by simp [PyData.canLayAll0], by simp [PyData.depthAll]⟩
    | cons x l ih => exact ⟨by simp [tupOs, tupO, ih.1], by simp [PyData.canLayAll0, PyData.canLay0, ih.2.1], by simp [PyData.depthAll, PyData.depth, ih.2.2]⟩
  obtain ⟨i1, i2, i3⟩ := hi r
  have hw' : PyData.strOk w = true := hw
  refine ⟨by simp [cmdD, tupO, tupOs, i1], by simp [cmdD, PyData.canLay0, PyData.canLayAll0, i2]; exact hw', by simp [cmdD, PyData.depth, PyData.depthAll, i3]⟩
theorem gd_tup6 {n : Nat} {a b c d e f : PyData} (ha : GD n a) (hb : GD n b) (hc : GD n c) (hd : GD n d) (he : GD n e) (hf : GD n f) : GD (n + 1) (.tuple [a, b, c, d, e, f]) := by
  refine ⟨?_, ?_, ?_⟩
  · simp [tupO, tupOs, ha.t, hb.t, hc.t, hd.t, he.t, hf.t]
  · simp [PyData.canLay0, PyData.canLayAll0, ha.l, hb.l, hc.l, hd.l, he.l, hf.l]
  · have := ha.dp; have := hb.dp; have := hc.dp; have := hd.dp; have := he.dp; have := hf.dp
    simp only [PyData.depth, PyData.depthAll]; omega
/-- lists of good data -/
structure GDs (n : Nat) (ds : List PyData) : Prop where
  t : tupOs ds = true
  l : PyData.canLayAll0 ds = true
  dp : PyData.depthAll ds ≤ n
theorem GDs.nil {n : Nat} : GDs n [] := ⟨rfl, by simp [PyData.canLayAll0], by simp [PyData.depthAll]⟩
theorem GDs.snoc {n : Nat} {ds : List PyData} {d : PyData} (h : GDs n ds) (g : GD n d) : GDs n (ds ++ [d]) := by
  obtain ⟨h1, h2, h3⟩ := h
  have := g.dp
  induction ds with
  | nil => exact ⟨by simp [tupOs, g.t], by simp [PyData.canLayAll0, g.l], by simp [PyData.depthAll]; omega⟩
  | cons x xs ih =>
    have a1 : tupO x = true ∧ tupOs xs = true := by simpa [tupOs] using h1
    have a2 : x.canLay0 = true ∧ PyData.canLayAll0 xs = true := by simpa [PyData.canLayAll0] using h2
    have a3 : x.depth ≤ n ∧ PyData.depthAll xs ≤ n := by
      simp only [PyData.depthAll] at h3; omega
    obtain ⟨b1, b2, b3⟩ := ih a1.2 a2.2 a3.2
    exact ⟨by simp [tupOs, a1.1]; exact b1, by simp [PyData.canLayAll0, a2.1]; exact b2, by simp only [List.cons_append, PyData.depthAll]; omega⟩
theorem GDs.app {n : Nat} {ds es : List PyData} (h : GDs n ds) (g : ∀ d ∈ es, GD n d) : GDs n (ds ++ es) := by
  induction es generalizing ds with
  | nil => rw [List.append_nil]; exact h
  | cons e es ih =>
    rw [show ds ++ e :: es = (ds ++ [e]) ++ es by simp]
    exact ih (h.snoc (g e List.mem_cons_self)) fun d hd => g d (List.mem_cons_of_mem _ hd)
theorem GDs.sh {n : Nat} {ds : List PyData} (h : GDs n ds) (hn : n ≤ 60) : SeqAt.shaped (.list ds) = true := by
  refine shaped_of (by simpa [PyData.canLay0] using h.l) ?_
  have := h.dp
  simp only [PyData.depth]; omega
theorem lost_gd {co las be : Int} : ∀ d ∈ lostD co las be, GD 1 d := by
  intro d hd
  obtain ⟨i, _, rfl⟩ := List.mem_map.mp hd
  exact gd_tup2 gd_int gd_int
theorem dpAll_app {K : PySem.W.Frag} {H : Hp} {xs ys : List V} {ds es : List PyData} (h : DpAll K H xs ds) (g : DpAll K H ys es) : DpAll K H (xs ++ ys) (ds ++ es) := by
  induction xs generalizing ds with
  | nil => cases h; exact g
  | cons x xs ih => cases h with | cons a b => exact .cons a (ih b)
theorem keysA_fl {kvs : KS} {w aw : Str} {ax : V} (h : ∀ p ∈ kvs, flN p.2) (hx : flN ax) : (∀ p ∈ keysA kvs w aw ax, flN p.2) ∧ (keysA kvs w aw ax).length ≤ kvs.length + 1 := by
  unfold keysA
  split
  · split
    · unfold putK
      split
      · refine ⟨fun p hp => ?_, by rw [List.length_map]; omega⟩
        obtain ⟨y, hy, rfl⟩ := List.mem_map.mp hp
        split
        · exact hx
        · exact h y hy
      · refine ⟨fun p hp => ?_, by rw [List.length_append]; simp⟩
        rcases List.mem_append.mp hp with hp | hp
        · exact h p hp
        · rw [List.mem_singleton.mp hp]; exact hx
    · split
      · refine ⟨fun p hp => h p (List.mem_filter.mp hp).1, ?_⟩
        have := List.length_filter_le (fun kv : Key × V => decide (kv.1 ≠ Sum.inl 2)) kvs
        exact Nat.le_succ_of_le this
      · exact ⟨h, Nat.le_succ _⟩
  · exact ⟨h, Nat.le_succ _⟩
theorem get_fl {kvs : KS} {k : Key} (h : ∀ p ∈ kvs, flN p.2) : flN ((valV kvs k).getD .non) := by
  unfold valV
  cases e : kvs.find? (fun kv => decide (kv.1 = k)) with
  | none => exact .inl rfl
  | some y => exact h y (List.mem_of_find?_eq_some e)
/-! ### what stands between the turns -/
def Ph (K : PySem.W.Frag) (H : Hp) (h : HR) (r : LR) : Prop :=
  ((h.st = "new" ∨ (h.st = "connecting" ∧ h.c = 0)) ∧ h.cm = .non ∧ h.be = 0 ∧ h.co = 0 ∧ r.v7 = .non) ∨
  ((h.st = "new" ∨ (h.st = "connecting" ∧ h.c = 0)) ∧ ∃ w rr a cm2, CmdV K H h.cm w rr ∧ 1 ≤ h.be ∧ r.v7 = .ref a ∧ SqT K H a [.int h.co, .int h.be, cm2] ∧ CmdV K H cm2 w rr) ∨
  (h.st = "idle" ∧ h.cm = .non ∧ r.v7 = .non ∧ h.co = h.s ∧ h.be = h.c ∧ h.c = r.cl) ∨
  (h.st = "waiting" ∧ r.v7 = .non ∧ h.co = h.s ∧ h.be = h.c ∧ h.c = r.cl ∧ 1 ≤ h.c ∧ ∃ w rr cv2, CmdV K H h.cm w rr ∧ DoL K H r.le cv2 w rr)
theorem Ph.tk {K : PySem.W.Frag} {H H' : Hp} {h : HR} {r : LR} (p : Ph K H h r) (s : TK H H') : Ph K H' h r := by
  rcases p with p | ⟨a, w, rr, q, cm2, z1, z2, z3, z4, z5⟩ | p | ⟨a, b, c, d, e, g, w, rr, cv2, z1, z2⟩
  · exact .inl p
  · exact .inr (.inl ⟨a, w, rr, q, cm2, z1.tk s, z2, z3, sqT_tk z4 s, z5.tk s⟩)
  · exact .inr (.inr (.inl p))
  · exact .inr (.inr (.inr ⟨a, b, c, d, e, g, w, rr, cv2, z1.tk s, z2.tk s⟩))
structure JK (K : PySem.W.Frag) (C : Addr) (H : Hp) (p tp q sl : Addr) (h : HR) (r : LR) (i : Nat) : Prop where
  hat : HAt C H p h
  hn : h.n = 3
  es : h.s = r.s
  est : h.st = r.st
  slt : H sl = some (.lst (LR.l r))
  ta : TapeQ K H tp q
  en : ∃ xs ys ds, H h.en = some (.lst xs) ∧ H r.en = some (.lst ys) ∧ DpAll K H xs ds ∧ DpAll K H ys ds ∧ GDs 3 ds ∧ ds.length ≤ i
  lo : ∃ xs ys ds, H h.lo = some (.lst xs) ∧ H r.lo = some (.lst ys) ∧ DpAll K H xs ds ∧ DpAll K H ys ds ∧ GDs 1 ds ∧ (ds.length : Int) + h.be ≤ i
  ke : ∃ kvs, H h.ke = some (.dK kvs) ∧ H r.ke = some (.dK kvs) ∧ (∀ p ∈ kvs, flN p.2) ∧ kvs.length ≤ i
  le : ∃ d, Dp K H h.le d ∧ Dp K H r.le d ∧ GD 3 d
  be : 0 ≤ h.be
  ph : Ph K H h r
  nd : [tp, q, sl, h.en, r.en, h.lo, r.lo].Nodup
  nk : h.ke ≠ r.ke
theorem JK.same {K : PySem.W.Frag} {C : Addr} {H H' : Hp} {p tp q sl : Addr} {h : HR} {r : LR} {i : Nat} (j : JK K C H p tp q sl h r i) (s : Same H H') : JK K C H' p tp q sl h r i := by
  obtain ⟨x1, y1, d1, a1, a2, a3, a4, a5, a6⟩ := j.en
  obtain ⟨x2, y2, d2, b1, b2, b3, b4, b5, b6⟩ := j.lo
  obtain ⟨kv, c1, c2, c3, c4⟩ := j.ke
  obtain ⟨d, e1, e2, e3⟩ := j.le
  exact ⟨j.hat.same s, j.hn, j.es, j.est, s _ _ j.slt, j.ta.same s, ⟨x1, y1, d1, s _ _ a1, s _ _ a2, dpAll_same s _ _ a3, dpAll_same s _ _ a4, a5, a6⟩, ⟨x2, y2, d2, s _ _ b1, s _ _ b2, dpAll_same s _ _ b3, dpAll_same s _ _ b4, b5, b6⟩, ⟨kv, s _ _ c1, s _ _ c2, c3, c4⟩, ⟨d, dp_same s _ _ e1, dp_same s _ _ e2, e3⟩, j.be, j.ph.tk (TK.of s), j.nd, j.nk⟩
theorem JK.tape {K : PySem.W.Frag} {C : Addr} {H H' : Hp} {p tp q sl : Addr} {h : HR} {r : LR} {i : Nat} (j : JK K C H p tp q sl h r i) (o : Off [tp] H H') (t : TapeQ K H' tp q) : JK K C H' p tp q sl h r i := by
  have tk := j.ta.tk o
  obtain ⟨l, hl⟩ := j.ta.lst
  obtain ⟨x1, y1, d1, a1, a2, a3, a4, a5, a6⟩ := j.en
  obtain ⟨x2, y2, d2, b1, b2, b3, b4, b5, b6⟩ := j.lo
  obtain ⟨kv, c1, c2, c3, c4⟩ := j.ke
  obtain ⟨d, e1, e2, e3⟩ := j.le
  obtain ⟨dx, hp⟩ := j.hat
  have nd := j.nd
  simp only [List.nodup_cons, List.mem_cons, List.not_mem_nil, or_false, not_or] at nd
  obtain ⟨⟨m1, m2, m3, m4, m5, m6⟩, _⟩ := nd
  refine ⟨⟨dx, o _ _ hp (by simpa using ne_of hp hl (by intro z; cases z))⟩, j.hn, j.es, j.est, o _ _ j.slt (by simpa using Ne.symm m2), t, ⟨x1, y1, d1, o _ _ a1 (by simpa using Ne.symm m3), o _ _ a2 (by simpa using Ne.symm m4), dpAll_tk tk _ _ a5.t a3, dpAll_tk tk _ _ a5.t a4, a5, a6⟩, ⟨x2, y2, d2, o _ _ b1 (by simpa using Ne.symm m5), o _ _ b2 (by simpa using Ne.symm m6), dpAll_tk tk _ _ b5.t b3, dpAll_tk tk _ _ b5.t b4, b5, b6⟩, ⟨kv, o _ _ c1 (by simpa using ne_of c1 hl (by intro z; cases z)), o _ _ c2 (by simpa using ne_of c2 hl (by intro z; cases z)), c3, c4⟩, ⟨d, dp_tk tk _ _ e3.t e1, dp_tk tk _ _ e3.t e2, e3⟩, j.be, j.ph.tk tk, j.nd, j.nk⟩
theorem JK.mono {K : PySem.W.Frag} {C : Addr} {H : Hp} {p tp q sl : Addr} {h : HR} {r : LR} {i m : Nat} (j : JK K C H p tp q sl h r i) (hm : i ≤ m) : JK K C H p tp q sl h r m := by
  obtain ⟨x1, y1, d1, a1, a2, a3, a4, a5, a6⟩ := j.en
  obtain ⟨x2, y2, d2, b1, b2, b3, b4, b5, b6⟩ := j.lo
  obtain ⟨kv, c1, c2, c3, c4⟩ := j.ke
  exact ⟨j.hat, j.hn, j.es, j.est, j.slt, j.ta, ⟨x1, y1, d1, a1, a2, a3, a4, a5, by omega⟩, ⟨x2, y2, d2, b1, b2, b3, b4, b5, by omega⟩, ⟨kv, c1, c2, c3, by omega⟩, j.le, j.be, j.ph, j.nd, j.nk⟩
theorem oc_eq {h : HR} {r : LR} {L : Lt} (hn : h.n = 3) (es : h.s = r.s) (est : h.st = r.st) (hc : h.st = "waiting" → h.c = r.cl) : oc h L = oc (hOf r) L := by
  unfold oc
  rw [show (hOf r).st = h.st from est.symm]
  by_cases e1 : h.st = "connecting"
  · rw [if_pos e1, if_pos e1]
    cases L <;> first | rfl | (unfold ocC; dsimp only [hOf]; rw [hn, es]; rfl)
  · rw [if_neg e1, if_neg e1]
    by_cases e2 : h.st = "waiting"
    · rw [if_pos e2, if_pos e2]
      cases L <;> first | rfl | (unfold ocW; dsimp only [hOf]; rw [hn, es, hc e2]; rfl)
    · rw [if_neg e2, if_neg e2]
theorem oc_con {h : HR} {L : Lt} {td : Td} (e : oc h L = .con td) : h.st = "connecting" ∧ ∃ a b, L = .conn a b td := by
  unfold oc at e
  by_cases e1 : h.st = "connecting"
  · rw [if_pos e1] at e
    refine ⟨e1, ?_⟩
    cases L with
    | conn a b t =>
      by_cases c : a = h.n ∧ b = h.s
      · rw [show ocC h (.conn a b t) = .con t from if_pos c] at e; cases e; exact ⟨_, _, rfl⟩
      · rw [show ocC h (.conn a b t) = .no from if_neg c] at e; cases e
    | ans => cases e
    | no a b x w =>
      by_cases c : a = h.n ∧ b = h.s ∧ x = 0 ∧ w = "old"
      · rw [show ocC h (.no a b x w) = .nw from if_pos c] at e; cases e
      · rw [show ocC h (.no a b x w) = .no from if_neg c] at e; cases e
  · rw [if_neg e1] at e
    by_cases e2 : h.st = "waiting"
    · rw [if_pos e2] at e
      cases L with
      | conn => cases e
      | ans a b x aw ax =>
        by_cases c : a = h.n ∧ b = h.s ∧ x = h.c
        · rw [show ocW h (.ans a b x aw ax) = .ended aw ax from if_pos c] at e; cases e
        · rw [show ocW h (.ans a b x aw ax) = .no from if_neg c] at e; cases e
      | no a b x w =>
        by_cases c : a = h.n ∧ b = h.s ∧ x = h.c ∧ w = "lost"
        · rw [show ocW h (.no a b x w) = .lost from if_pos c] at e; cases e
        · rw [show ocW h (.no a b x w) = .no from if_neg c] at e; cases e
    · rw [if_neg e2] at e; cases e
theorem ocW_ne {h : HR} {L : Lt} : ocW h L ≠ .nw := by
  cases L with
  | conn => intro e; cases e
  | ans a b x aw ax =>
    intro e
    by_cases c : a = h.n ∧ b = h.s ∧ x = h.c
    · rw [show ocW h (.ans a b x aw ax) = .ended aw ax from if_pos c] at e; cases e
    · rw [show ocW h (.ans a b x aw ax) = .no from if_neg c] at e; cases e
  | no a b x w =>
    intro e
    by_cases c : a = h.n ∧ b = h.s ∧ x = h.c ∧ w = "lost"
    · rw [show ocW h (.no a b x w) = .lost from if_pos c] at e; cases e
    · rw [show ocW h (.no a b x w) = .no from if_neg c] at e; cases e
theorem oc_nw {h : HR} {L : Lt} (e : oc h L = .nw) : h.st = "connecting" := by
  unfold oc at e
  by_cases e1 : h.st = "connecting"
  · exact e1
  · rw [if_neg e1] at e
    by_cases e2 : h.st = "waiting"
    · rw [if_pos e2] at e
      exact absurd e ocW_ne
    · rw [if_neg e2] at e; cases e
theorem ocC_no {h : HR} {L : Lt} : ocC h L = .no ∨ ocC h L = .nw ∨ ∃ td, ocC h L = .con td := by
  cases L with
  | conn a b t =>
    by_cases c : a = h.n ∧ b = h.s
    · exact .inr (.inr ⟨t, if_pos c⟩)
    · exact .inl (if_neg c)
  | ans => exact .inl rfl
  | no a b x w =>
    by_cases c : a = h.n ∧ b = h.s ∧ x = 0 ∧ w = "old"
    · exact .inr (.inl (if_pos c))
    · exact .inl (if_neg c)
theorem oc_wait {h : HR} {L : Lt} (e : oc h L = .lost ∨ ∃ aw ax, oc h L = .ended aw ax) : h.st = "waiting" := by
  unfold oc at e
  by_cases e1 : h.st = "connecting"
  · rw [if_pos e1] at e
    rcases ocC_no (h := h) (L := L) with z | z | ⟨td, z⟩ <;> rw [z] at e <;> (rcases e with e | ⟨_, _, e⟩ <;> cases e)
  · rw [if_neg e1] at e
    by_cases e2 : h.st = "waiting"
    · exact e2
    · rw [if_neg e2] at e; rcases e with e | ⟨_, _, e⟩ <;> cases e
end Sg

set_option Elab.async false
set_option linter.all false
set_option maxRecDepth 100000
set_option maxHeartbeats 8000000
namespace Sg
open PySem PySem.Spec PyProof.Rows L2

theorem nd7 {a b c d e f g : Addr} : [a, b, c, d, e, f, g].Nodup ↔ (a ≠ b ∧ a ≠ c ∧ a ≠ d ∧ a ≠ e ∧ a ≠ f ∧ a ≠ g ∧ b ≠ c ∧ b ≠ d ∧ b ≠ e ∧ b ≠ f ∧ b ≠ g ∧ c ≠ d ∧ c ≠ e ∧ c ≠ f ∧ c ≠ g ∧ d ≠ e ∧ d ≠ f ∧ d ≠ g ∧ e ≠ f ∧ e ≠ g ∧ f ≠ g) := by
  simp only [List.nodup_cons, List.mem_cons, List.not_mem_nil, or_false, not_or, List.nodup_nil, not_false_eq_true, and_true, and_assoc, ne_eq]
theorem Off.wk {xs ys : List Addr} {H H' : Hp} (o : Off xs H H') (s : ∀ x ∈ xs, x ∈ ys) : Off ys H H' := fun b u e n => o _ _ e fun m => n (s _ m)
theorem DpAll.len {K : PySem.W.Frag} {H : Hp} : ∀ {xs : List V} {ds : List PyData}, DpAll K H xs ds → xs.length = ds.length
  | [], [], _ => rfl
  | _ :: _, _ :: _, h => by cases h with | cons a b => exact congrArg Nat.succ (DpAll.len b)
theorem dpAll_one {K : PySem.W.Frag} {H : Hp} {xs : List V} {ds : List PyData} {x : V} {d : PyData} (h : DpAll K H xs ds) (g : Dp K H x d) : DpAll K H (xs ++ [x]) (ds ++ [d]) := dpAll_app h (.cons g .nil)
theorem ent_d {K : PySem.W.Frag} {H : Hp} {t : Addr} {a b : Int} {cv av ax : V} {w aw : Str} {rr : List Int} (ht : H t = some (.tup [.int a, .int b, cv, av])) (c : CmdV K H cv w rr) (z : AnsV K H av aw ax) :
    Dp K H (.ref t) (.tuple [.int a, .int b, cmdD w rr, ansD aw ax]) ∧ GD 3 (.tuple [.int a, .int b, cmdD w rr, ansD aw ax]) :=
  ⟨.tup (SqT.of ht) (.cons (.int _) (.cons (.int _) (.cons (cmd_d c).1 (.cons (ans_d z).1 .nil)))), (gd_tup4 (n := 1) gd_int gd_int (cmd_d c).2 (ans_d z).2).mono (by decide)⟩
theorem key_fl {kvs : KS} {w : Str} (h : ∀ p ∈ kvs, flN p.2) : flN (keyFor kvs w) := by
  unfold keyFor
  split
  · exact .inl rfl
  · exact get_fl h
section
variable {K : PySem.W.Frag} {C : Addr} {H H1 H2 : Hp} {p tp q sl : Addr} {h : HR} {r : LR} {i : Nat}
/-- the host is no list and no dict -/
theorem JK.np (j : JK K C H p tp q sl h r i) : (∀ {b : Addr} {l}, H b = some (.lst l) → b ≠ p) ∧ (∀ {b : Addr} {l}, H b = some (.dK l) → b ≠ p) := by
  obtain ⟨dx, hp⟩ := j.hat
  exact ⟨fun e => ne_of e hp (by intro z; cases z), fun e => ne_of e hp (by intro z; cases z)⟩
theorem ld {H : Hp} {a b : Addr} {l : List V} {d : KS} (h : H a = some (.lst l)) (g : H b = some (.dK d)) : a ≠ b := ne_of h g (by intro z; cases z)
theorem JK.calm (j : JK K C H p tp q sl h r i) {h' : HR} {r' : LR} (o : Off [p, tp, sl] H H2) (tk : TK H H2) (hat : HAt C H2 p h') (slt : H2 sl = some (.lst (LR.l r'))) (ta : TapeQ K H2 tp q)
    (e1 : h'.en = h.en) (e2 : r'.en = r.en) (e3 : h'.lo = h.lo) (e4 : r'.lo = r.lo) (e5 : h'.ke = h.ke) (e6 : r'.ke = r.ke) (hn : h'.n = 3) (es : h'.s = r'.s) (est : h'.st = r'.st)
    (b1 : 0 ≤ h'.be) (b2 : h'.be ≤ h.be + 1) (le : ∃ d, Dp K H2 h'.le d ∧ Dp K H2 r'.le d ∧ GD 3 d) (ph : Ph K H2 h' r') : JK K C H2 p tp q sl h' r' (i + 1) := by
  obtain ⟨x1, y1, d1, a1, a2, a3, a4, a5, a6⟩ := j.en
  obtain ⟨x2, y2, d2, c1, c2, c3, c4, c5, c6⟩ := j.lo
  obtain ⟨kv, k1, k2, k3, k4⟩ := j.ke
  obtain ⟨tl, htl⟩ := j.ta.lst
  have hsl := j.slt
  obtain ⟨npl, npd⟩ := j.np
  obtain ⟨_, _, ta1, tb, tc1, td1, _, _, _, _, _, sa, sb, sc, sd, _⟩ := nd7.mp j.nd
  refine ⟨hat, hn, es, est, slt, ta, ⟨x1, y1, d1, ?_, ?_, dpAll_tk tk _ _ a5.t a3, dpAll_tk tk _ _ a5.t a4, a5, by omega⟩, ⟨x2, y2, d2, ?_, ?_, dpAll_tk tk _ _ c5.t c3, dpAll_tk tk _ _ c5.t c4, c5, by omega⟩, ⟨kv, ?_, ?_, k3, by omega⟩, le, b1, ph, ?_, ?_⟩
  · rw [e1]; exact o _ _ a1 (by simp [npl a1, ta1.symm, sa.symm])
  · rw [e2]; exact o _ _ a2 (by simp [npl a2, tb.symm, sb.symm])
  · rw [e3]; exact o _ _ c1 (by simp [npl c1, tc1.symm, sc.symm])
  · rw [e4]; exact o _ _ c2 (by simp [npl c2, td1.symm, sd.symm])
  · rw [e5]; exact o _ _ k1 (by simp [npd k1, (ld htl k1).symm, (ld hsl k1).symm])
  · rw [e6]; exact o _ _ k2 (by simp [npd k2, (ld htl k2).symm, (ld hsl k2).symm])
  · rw [e1, e2, e3, e4]; exact j.nd
  · rw [e5, e6]; exact j.nk
theorem JK.sl_p (j : JK K C H p tp q sl h r i) : sl ≠ p ∧ tp ≠ p ∧ q ≠ p := by
  obtain ⟨npl, npd⟩ := j.np
  obtain ⟨ns, k, rest, seed, h1, h2, _⟩ := j.ta
  exact ⟨npl j.slt, npl h1, npl h2⟩
theorem JK.hat1 (j : JK K C H p tp q sl h r i) (o1 : Off [tp, sl] H H1) : HAt C H1 p h := j.hat.off o1 (by
  obtain ⟨n1, n2, _⟩ := j.sl_p
  simp [n1.symm, n2.symm])
theorem HAt.tk (g : HAt C H p h) (o : Off [p] H H1) : TK H H1 := by
  obtain ⟨dx, e⟩ := g
  exact tk_ins o e
theorem JK.bnew (j : JK K C H p tp q sl h r i) (o1 : Off [tp, sl] H H1) (ta : TapeQ K H1 tp q) (k1 : TK H H1) (hst : h.st = "new") {t t2 : Addr}
    (z1 : H1 sl = some (.lst (LR.l {r with s := r.s + 1, st := "connecting", le := .ref t}))) (z2 : H1 t = some (.tup [.str "connect", .int 3, .int (r.s + 1)]))
    (hat : HAt C H2 p {h with s := h.s + 1, c := 0, st := "connecting", le := .ref t2}) (z3 : H2 t2 = some (.tup [.str "connect", .int h.n, .int (h.s + 1)])) (o2 : Off [p] H1 H2) :
    JK K C H2 p tp q sl {h with s := h.s + 1, c := 0, st := "connecting", le := .ref t2} {r with s := r.s + 1, st := "connecting", le := .ref t} (i + 1) := by
  have k2 := (j.hat1 o1).tk o2
  obtain ⟨n1, n2, n3⟩ := j.sl_p
  rw [j.hn, j.es] at z3
  refine j.calm ((o1.wk (by simp)).trans (o2.wk (by simp))) (k1.trans k2) hat (o2 _ _ z1 (by simp [n1])) (ta.off o2 (by simp [n2]) (by simp [n3])) rfl rfl rfl rfl rfl rfl j.hn (by show h.s + 1 = r.s + 1; rw [j.es]) rfl j.be (by show h.be ≤ h.be + 1; omega)
    ⟨.tuple [.str "connect", .int 3, .int (r.s + 1)], .tup (SqT.of z3) (.cons (.str _) (.cons (.int _) (.cons (.int _) .nil))), .tup (SqT.of (k2.t _ _ z2)) (.cons (.str _) (.cons (.int _) (.cons (.int _) .nil))), (gd_tup3 (n := 0) (gd_str (by decide +kernel)) gd_int gd_int).mono (by decide)⟩ ?_
  rcases j.ph with ⟨_, b⟩ | ⟨_, w, rr, a, cm2, g1, g2, g3, g4, g5⟩ | ⟨a, _⟩ | ⟨a, _⟩
  · exact .inl ⟨.inr ⟨rfl, rfl⟩, b⟩
  · exact .inr (.inl ⟨.inr ⟨rfl, rfl⟩, w, rr, a, cm2, g1.tk (k1.trans k2), g2, g3, sqT_tk g4 (k1.trans k2), g5.tk (k1.trans k2)⟩)
  · rw [hst] at a; exact absurd a (by decide)
  · rw [hst] at a; exact absurd a (by decide)
theorem JK.bidle (j : JK K C H p tp q sl h r i) (o1 : Off [tp, sl] H H1) (ta : TapeQ K H1 tp q) (k1 : TK H H1) (hst : h.st = "idle") {t t2 : Addr} {cv : V} {w : Str} {rr : List Int} {kvs : KS} (c : CmdV K H1 cv w rr) (fl : ∀ p ∈ kvs, flN p.2)
    (z1 : H1 sl = some (.lst (LR.l {r with cl := r.cl + 1, st := "waiting", le := .ref t}))) (z2 : H1 t = some (.tup [.str "do", .int 3, .int r.s, .int (r.cl + 1), keyFor kvs w, cv]))
    (hat : HAt C H2 p {h with c := h.c + 1, st := "waiting", be := h.c + 1, cm := cv, le := .ref t2}) (z3 : H2 t2 = some (.tup [.str "do", .int h.n, .int h.s, .int (h.c + 1), keyFor kvs w, cv])) (o2 : Off [p] H1 H2) :
    JK K C H2 p tp q sl {h with c := h.c + 1, st := "waiting", be := h.c + 1, cm := cv, le := .ref t2} {r with cl := r.cl + 1, st := "waiting", le := .ref t} (i + 1) := by
  have k2 := (j.hat1 o1).tk o2
  obtain ⟨n1, n2, n3⟩ := j.sl_p
  have P : h.cm = .non ∧ r.v7 = .non ∧ h.co = h.s ∧ h.be = h.c ∧ h.c = r.cl := by
    rcases j.ph with ⟨a, _⟩ | ⟨a, _⟩ | ⟨_, a⟩ | ⟨a, _⟩
    · rcases a with a | ⟨a, _⟩ <;> (rw [hst] at a; exact absurd a (by decide))
    · rcases a with a | ⟨a, _⟩ <;> (rw [hst] at a; exact absurd a (by decide))
    · exact a
    · rw [hst] at a; exact absurd a (by decide)
  obtain ⟨p1, p2, p3, p4, p5⟩ := P
  have bb := j.be
  rw [j.hn, j.es, p5] at z3
  have c2 := c.tk k2
  have f1 := fl_dp (K := K) (H := H2) (key_fl (w := w) fl)
  have z2' := k2.t _ _ z2
  refine j.calm ((o1.wk (by simp)).trans (o2.wk (by simp))) (k1.trans k2) hat (o2 _ _ z1 (by simp [n1])) (ta.off o2 (by simp [n2]) (by simp [n3])) rfl rfl rfl rfl rfl rfl j.hn j.es rfl (by show 0 ≤ h.c + 1; omega) (by show h.c + 1 ≤ h.be + 1; omega)
    ⟨.tuple [.str "do", .int 3, .int r.s, .int (r.cl + 1), vD (keyFor kvs w), cmdD w rr], .tup (SqT.of z3) (.cons (.str _) (.cons (.int _) (.cons (.int _) (.cons (.int _) (.cons f1.1 (.cons (cmd_d c2).1 .nil)))))), .tup (SqT.of z2') (.cons (.str _) (.cons (.int _) (.cons (.int _) (.cons (.int _) (.cons f1.1 (.cons (cmd_d c2).1 .nil)))))), (gd_tup6 (n := 1) (gd_str (by decide +kernel)) gd_int gd_int gd_int (f1.2 _) (cmd_d c2).2).mono (by decide)⟩ ?_
  refine .inr (.inr (.inr ⟨rfl, p2, p3, rfl, ?_, ?_, w, rr, cv, c2, t, _, _, _, _, rfl, SqT.of z2', c2⟩))
  · show h.c + 1 = r.cl + 1; rw [p5]
  · show 1 ≤ h.c + 1; omega
theorem JK.bno (j : JK K C H p tp q sl h r i) (o1 : Off [tp, sl] H H1) (ta : TapeQ K H1 tp q) (k1 : TK H H1) (z1 : H1 sl = some (.lst (LR.l r))) : JK K C H1 p tp q sl h r (i + 1) := by
  obtain ⟨d, g1, g2, g3⟩ := j.le
  exact j.calm (o1.wk (by simp)) k1 (j.hat1 o1) z1 ta rfl rfl rfl rfl rfl rfl j.hn j.es j.est j.be (by omega) ⟨d, dp_tk k1 _ _ g3.t g1, dp_tk k1 _ _ g3.t g2, g3⟩ (j.ph.tk k1)
theorem JK.ta1 (j : JK K C H p tp q sl h r i) (o1 : Off [sl] H H1) : TapeQ K H1 tp q := by
  obtain ⟨_, ts, _, _, _, _, qs, _⟩ := nd7.mp j.nd
  exact j.ta.off o1 (by simp [ts]) (by simp [qs])
theorem JK.nw (j : JK K C H p tp q sl h r i) (o1 : Off [sl] H H1) (k1 : TK H H1) (hst : h.st = "connecting") {t t2 : Addr}
    (z1 : H1 sl = some (.lst (LR.l {r with s := r.s + 1, le := .ref t}))) (z2 : H1 t = some (.tup [.str "connect", .int 3, .int (r.s + 1)]))
    (hat : HAt C H2 p {h with s := h.s + 1, c := 0, st := "connecting", le := .ref t2}) (z3 : H2 t2 = some (.tup [.str "connect", .int h.n, .int (h.s + 1)])) (o2 : Off [p] H1 H2) :
    JK K C H2 p tp q sl {h with s := h.s + 1, c := 0, st := "connecting", le := .ref t2} {r with s := r.s + 1, le := .ref t} (i + 1) := by
  have o1' : Off [tp, sl] H H1 := o1.wk (by simp)
  have k2 := (j.hat1 o1').tk o2
  obtain ⟨n1, n2, n3⟩ := j.sl_p
  rw [j.hn, j.es] at z3
  refine j.calm ((o1.wk (by simp)).trans (o2.wk (by simp))) (k1.trans k2) hat (o2 _ _ z1 (by simp [n1])) ((j.ta1 o1).off o2 (by simp [n2]) (by simp [n3])) rfl rfl rfl rfl rfl rfl j.hn (by show h.s + 1 = r.s + 1; rw [j.es]) (hst.symm.trans j.est) j.be (by show h.be ≤ h.be + 1; omega)
    ⟨.tuple [.str "connect", .int 3, .int (r.s + 1)], .tup (SqT.of z3) (.cons (.str _) (.cons (.int _) (.cons (.int _) .nil))), .tup (SqT.of (k2.t _ _ z2)) (.cons (.str _) (.cons (.int _) (.cons (.int _) .nil))), (gd_tup3 (n := 0) (gd_str (by decide +kernel)) gd_int gd_int).mono (by decide)⟩ ?_
  rcases j.ph with ⟨_, b⟩ | ⟨_, w, rr, a, cm2, g1, g2, g3, g4, g5⟩ | ⟨a, _⟩ | ⟨a, _⟩
  · exact .inl ⟨.inr ⟨rfl, rfl⟩, b⟩
  · exact .inr (.inl ⟨.inr ⟨rfl, rfl⟩, w, rr, a, cm2, g1.tk (k1.trans k2), g2, g3, sqT_tk g4 (k1.trans k2), g5.tk (k1.trans k2)⟩)
  · rw [hst] at a; exact absurd a (by decide)
  · rw [hst] at a; exact absurd a (by decide)
/-- while it waits -/
theorem JK.wt (j : JK K C H p tp q sl h r i) (hst : h.st = "waiting") : r.v7 = .non ∧ h.co = h.s ∧ h.be = h.c ∧ h.c = r.cl ∧ 1 ≤ h.c ∧ ∃ w rr cv2, CmdV K H h.cm w rr ∧ DoL K H r.le cv2 w rr := by
  rcases j.ph with ⟨a, _⟩ | ⟨a, _⟩ | ⟨a, _⟩ | ⟨_, a⟩
  · rcases a with a | ⟨a, _⟩ <;> (rw [hst] at a; exact absurd a (by decide))
  · rcases a with a | ⟨a, _⟩ <;> (rw [hst] at a; exact absurd a (by decide))
  · rw [hst] at a; exact absurd a (by decide)
  · exact a
theorem JK.lost (j : JK K C H p tp q sl h r i) (o1 : Off [sl] H H1) (k1 : TK H H1) (hst : h.st = "waiting") {a7 : Addr} {cv : V} {w : Str} {rr : List Int} (c1 : CmdV K H h.cm w rr) (c2 : CmdV K H cv w rr)
    (z1 : H1 sl = some (.lst (LR.l {r with v7 := .ref a7, st := "new", le := .non}))) (z2 : H1 a7 = some (.tup [.int r.s, .int r.cl, cv]))
    (hat : HAt C H2 p {h with st := "new", le := .non}) (o2 : Off [p] H1 H2) : JK K C H2 p tp q sl {h with st := "new", le := .non} {r with v7 := .ref a7, st := "new", le := .non} (i + 1) := by
  have o1' : Off [tp, sl] H H1 := o1.wk (by simp)
  have k2 := (j.hat1 o1').tk o2
  obtain ⟨n1, n2, n3⟩ := j.sl_p
  obtain ⟨p1, p2, p3, p4, p5, _⟩ := j.wt hst
  refine j.calm ((o1.wk (by simp)).trans (o2.wk (by simp))) (k1.trans k2) hat (o2 _ _ z1 (by simp [n1])) ((j.ta1 o1).off o2 (by simp [n2]) (by simp [n3])) rfl rfl rfl rfl rfl rfl j.hn j.es rfl j.be (by show h.be ≤ h.be + 1; omega) ⟨.none, .non, .non, gd_none⟩ ?_
  refine .inr (.inl ⟨.inl rfl, w, rr, a7, cv, c1.tk (k1.trans k2), (by show 1 ≤ h.be; omega), rfl, ?_, c2.tk (k1.trans k2)⟩)
  show SqT K H2 a7 [.int h.co, .int h.be, cv]
  rw [p2, p3, p4, j.es]
  exact SqT.of (k2.t _ _ z2)
theorem JK.ended (j : JK K C H p tp q sl h r i) (hst : h.st = "waiting") {aw w : Str} {ax cv av av2 : V} {rr : List Int} {xs ys : List V} {kvs : KS} {t t2 : Addr} (c1 : CmdV K H h.cm w rr) (c2 : CmdV K H cv w rr)
    (hx : H h.en = some (.lst xs)) (hy : H r.en = some (.lst ys)) (kx : H h.ke = some (.dK kvs)) (ky : H r.ke = some (.dK kvs))
    (z1 : H1 sl = some (.lst (LR.l {r with st := "idle", le := .non}))) (z2 : H1 r.en = some (.lst (ys ++ [.ref t]))) (z3 : H1 t = some (.tup [.int r.s, .int r.cl, cv, av])) (z4 : AnsV K H1 av aw ax) (z5 : H1 r.ke = some (.dK (keysA kvs w aw ax))) (o1 : Off [sl, r.en, r.ke] H H1) (k1 : TK H H1)
    (hat : HAt C H2 p {h with cm := .non, st := "idle", le := .non}) (y2 : H2 h.en = some (.lst (xs ++ [.ref t2]))) (y3 : H2 t2 = some (.tup [.int h.co, .int h.be, h.cm, av2])) (y4 : AnsV K H2 av2 aw ax) (y5 : H2 h.ke = some (.dK (keysA kvs w aw ax))) (o2 : Off [p, h.en, h.ke] H1 H2) (k2 : TK H1 H2) :
    JK K C H2 p tp q sl {h with cm := .non, st := "idle", le := .non} {r with st := "idle", le := .non} (i + 1) := by
  obtain ⟨x1, y1, d1, a1, a2, a3, a4, a5, a6⟩ := j.en
  obtain ⟨x2, w2, d2, b1, b2, b3, b4, b5, b6⟩ := j.lo
  obtain ⟨kv, f1, f2, f3, f4⟩ := j.ke
  rw [hx] at a1; cases a1
  rw [hy] at a2; cases a2
  rw [kx] at f1; cases f1
  obtain ⟨tl, htl⟩ := j.ta.lst
  have hsl := j.slt
  obtain ⟨npl, npd⟩ := j.np
  obtain ⟨n1, n2, n3⟩ := j.sl_p
  obtain ⟨p1, p2, p3, p4, p5, _⟩ := j.wt hst
  obtain ⟨tq, ts, ta1, tb, tc1, td1, qs, qa, qb, qc, qd, sa, sb, sc, sd, ab, ac, ad, bc, bd, cd⟩ := nd7.mp j.nd
  obtain ⟨ns, kq, rest, seed, hT, hQ, tr⟩ := id j.ta
  have k := k1.trans k2
  have E1 := ent_d (K := K) (k2.t _ _ z3) (c2.tk k) (z4.tk k2)
  have y3' := y3
  rw [p2, p3, p4, j.es] at y3'
  have E2 := ent_d (K := K) y3' (c1.tk k) y4
  have hfl : flN ax := by obtain ⟨_, _, _, _, g⟩ := z4; exact g
  obtain ⟨g1, g2⟩ := keysA_fl (w := w) (aw := aw) f3 hfl
  have one : ∀ {b : Addr} {l : List V}, H b = some (.lst l) → b ≠ sl → b ≠ r.en → b ≠ h.en → H2 b = some (.lst l) := fun e e1 e2 e3 =>
    o2 _ _ (o1 _ _ e (by simp [e1, e2, ld e ky])) (by simp [npl e, e3, ld e kx])
  have hr2 : H2 r.en = some (.lst (ys ++ [.ref t])) := o2 _ _ z2 (by simp [npl hy, ab.symm, ld hy kx])
  refine ⟨hat, j.hn, j.es, rfl, o2 _ _ z1 (by simp [n1, sa, ld hsl kx]), ⟨ns, kq, rest, seed, one hT ts tb ta1, one hQ qs qb qa, tr⟩,
    ⟨xs ++ [.ref t2], ys ++ [.ref t], d1 ++ [.tuple [.int r.s, .int r.cl, cmdD w rr, ansD aw ax]], y2, hr2, dpAll_one (dpAll_tk k _ _ a5.t a3) E2.1, dpAll_one (dpAll_tk k _ _ a5.t a4) E1.1, a5.snoc E1.2, by rw [List.length_append]; simp; omega⟩,
    ⟨x2, w2, d2, one b1 sc.symm bc.symm ac.symm, one b2 sd.symm bd.symm ad.symm, dpAll_tk k _ _ b5.t b3, dpAll_tk k _ _ b5.t b4, b5, by show (d2.length : Int) + h.be ≤ _; omega⟩,
    ⟨_, y5, o2 _ _ z5 (by simp [npd ky, (ld hx ky).symm, j.nk.symm]), g1, by omega⟩, ⟨.none, .non, .non, gd_none⟩, j.be, ?_, j.nd, j.nk⟩
  exact .inr (.inr (.inl ⟨rfl, rfl, p1, p2, p3, p4⟩))
/-- connected: what was under way is known -/
theorem JK.con (j : JK K C H p tp q sl h r i) {lo' : Addr} (c0 : h.c = 0) (hat : HAt C H2 p {h with lo := lo', cm := .non, co := h.s, be := 0, st := "idle", le := .non})
    (slt : H2 sl = some (.lst (LR.l {r with cl := 0, st := "idle", le := .non, v7 := .non}))) (ta : TapeQ K H2 tp q)
    (en : ∃ xs ys ds, H2 h.en = some (.lst xs) ∧ H2 r.en = some (.lst ys) ∧ DpAll K H2 xs ds ∧ DpAll K H2 ys ds ∧ GDs 3 ds ∧ ds.length ≤ i + 1)
    (lo : ∃ xs ys ds, H2 lo' = some (.lst xs) ∧ H2 r.lo = some (.lst ys) ∧ DpAll K H2 xs ds ∧ DpAll K H2 ys ds ∧ GDs 1 ds ∧ (ds.length : Int) ≤ i + 1)
    (ke : ∃ kvs, H2 h.ke = some (.dK kvs) ∧ H2 r.ke = some (.dK kvs) ∧ (∀ p ∈ kvs, flN p.2) ∧ kvs.length ≤ i + 1)
    (n1 : tp ≠ lo') (n2 : q ≠ lo') (n3 : sl ≠ lo') (n4 : h.en ≠ lo') (n5 : r.en ≠ lo') (n6 : lo' ≠ r.lo) :
    JK K C H2 p tp q sl {h with lo := lo', cm := .non, co := h.s, be := 0, st := "idle", le := .non} {r with cl := 0, st := "idle", le := .non, v7 := .non} (i + 1) := by
  obtain ⟨tq, ts, ta1, tb, tc1, td1, qs, qa, qb, qc, qd, sa, sb, sc, sd, ab, ac, ad, bc, bd, cd⟩ := nd7.mp j.nd
  obtain ⟨x2, w2, d2, b1, b2, b3, b4, b5, b6⟩ := lo
  exact ⟨hat, j.hn, j.es, rfl, slt, ta, en, ⟨x2, w2, d2, b1, b2, b3, b4, b5, by show (d2.length : Int) + 0 ≤ ((i + 1 : Nat) : Int); omega⟩, ke, ⟨.none, .non, .non, gd_none⟩, Int.le_refl _, .inr (.inr (.inl ⟨rfl, rfl, rfl, rfl, c0.symm, c0⟩)),
    nd7.mpr ⟨tq, ts, ta1, tb, n1, td1, qs, qa, qb, n2, qd, sa, sb, n3, sd, ab, n4, ad, n5, bd, n6⟩, j.nk⟩
end
end Sg

set_option Elab.async false
set_option linter.all false
set_option maxRecDepth 100000
set_option maxHeartbeats 8000000
namespace Sg
open PySem PySem.Spec PyProof.Rows L2

section
variable {K : PySem.W.Frag} {C : Addr} {H H1 H2 : Hp} {p tp q sl : Addr} {h : HR} {r : LR} {i : Nat}
theorem JK.v7 (j : JK K C H p tp q sl h r i) (hi : i ≤ 100) : ∃ mo, V7 K H r.v7 mo ∧ 0 ≤ mo ∧ mo ≤ 900 ∧ ∀ a b td, LtB mo (.conn a b td) → h.st = "connecting" → 0 ≤ lasting td h.co ∧ lasting td h.co ≤ h.be := by
  obtain ⟨x2, w2, d2, b1, b2, b3, b4, b5, b6⟩ := j.lo
  have bb := j.be
  have go : ∀ {td : Td} {mo : Int}, LtB mo (.conn 0 0 td) → (h.co = 0 ∧ h.be = 0 ∨ mo = h.be) → 0 ≤ lasting td h.co ∧ lasting td h.co ≤ h.be := by
    intro td mo B hh
    cases td with
    | none => exact ⟨Int.le_refl _, bb⟩
    | some x =>
      obtain ⟨u, v, x⟩ := x
      obtain ⟨g1, g2, g3⟩ : 1 ≤ u ∧ 0 ≤ v ∧ v ≤ mo := B
      show 0 ≤ (if u = h.co then v else 0) ∧ (if u = h.co then v else 0) ≤ h.be
      by_cases e : u = h.co
      · rw [if_pos e]
        rcases hh with ⟨e1, _⟩ | e1
        · omega
        · omega
      · rw [if_neg e]; exact ⟨Int.le_refl _, bb⟩
  rcases j.ph with ⟨_, c1, c2, c3, c4⟩ | ⟨_, w, rr, a, cm2, c1, c2, c3, c4, c5⟩ | ⟨c0, _, c1, _⟩ | ⟨c0, c1, _⟩
  · exact ⟨3, .inl ⟨c4, rfl⟩, by decide, by decide, fun a b td B _ => go (td := td) (mo := 3) (by cases td <;> exact B) (.inl ⟨c3, c2⟩)⟩
  · exact ⟨h.be, .inr ⟨a, _, _, c3, c4⟩, bb, by omega, fun a b td B _ => go (td := td) (mo := h.be) (by cases td <;> exact B) (.inr rfl)⟩
  · exact ⟨3, .inl ⟨c1, rfl⟩, by decide, by decide, fun a b td B e => by rw [c0] at e; exact absurd e (by decide)⟩
  · exact ⟨3, .inl ⟨c1, rfl⟩, by decide, by decide, fun a b td B e => by rw [c0] at e; exact absurd e (by decide)⟩
theorem JK.conN (j : JK K C H p tp q sl h r i) {td : Td} {lo' : Addr} {xs es : List V} {kvs : KS} {w : Str} (hst : h.st = "connecting") (hv : r.v7 = .non) (las : 0 ≤ lasting td h.co ∧ lasting td h.co ≤ h.be) (hx : H h.lo = some (.lst xs)) (he : H h.en = some (.lst es)) (kx : H h.ke = some (.dK kvs))
    (z1 : H1 sl = some (.lst (LR.l {r with cl := 0, st := "idle", le := .non, v7 := .non}))) (o1 : Off [sl] H H1) (k1 : TK H H1)
    (hat : HAt C H2 p {h with lo := lo', cm := .non, co := h.s, be := 0, st := "idle", le := .non}) (P : Post K H1 p h td xs es kvs w H2 lo') :
    JK K C H2 p tp q sl {h with lo := lo', cm := .non, co := h.s, be := 0, st := "idle", le := .non} {r with cl := 0, st := "idle", le := .non, v7 := .non} (i + 1) := by
  have S : h.c = 0 ∧ h.cm = .non ∧ h.be = 0 := by
    rcases j.ph with ⟨c0, c1, c2, c3, c4⟩ | ⟨_, w, rr, a, cm2, c1, c2, c3, c4, c5⟩ | ⟨c0, _, c1, _⟩ | ⟨c0, c1, _⟩
    · rcases c0 with c0 | c0
      · rw [hst] at c0; exact absurd c0 (by decide)
      · exact ⟨c0.2, c1, c2⟩
    · rw [hv] at c3; cases c3
    · rw [hst] at c0; exact absurd c0 (by decide)
    · rw [hst] at c0; exact absurd c0 (by decide)
  obtain ⟨c0, cn, b0⟩ := S
  obtain ⟨x1, y1, d1, a1, a2, a3, a4, a5, a6⟩ := j.en
  obtain ⟨x2, y2, d2, b1, b2, b3, b4, b5, b6⟩ := j.lo
  obtain ⟨kv, f1, f2, f3, f4⟩ := j.ke
  rw [he] at a1; cases a1
  rw [hx] at b1; cases b1
  rw [kx] at f1; cases f1
  obtain ⟨npl, npd⟩ := j.np
  obtain ⟨n1, n2, n3⟩ := j.sl_p
  obtain ⟨tq, ts, ta1, tb, tc1, td1, qs, qa, qb, qc, qd, sa, sb, sc, sd, ab, ac, ad, bc, bd, cd⟩ := nd7.mp j.nd
  obtain ⟨ns, kq, rest, seed, hT, hQ, tr⟩ := id j.ta
  have hsl := j.slt
  have k2 := P.tk
  have k := k1.trans k2
  have o2 := P.off
  obtain ⟨zs, l1, _, l3⟩ := P.lst
  have ez : zs = [] := by
    cases zs with
    | nil => rfl
    | cons z zs => rw [b0] at l3; simp at l3; omega
  subst ez
  rw [List.append_nil] at l1
  obtain ⟨_, m2, m3⟩ : h.cm = .non ∧ H2 h.en = some (.lst es) ∧ H2 h.ke = some (.dK kvs) := by
    rcases P.cm with g | ⟨g, _⟩
    · exact g
    · exact absurd cn g
  have at1 : ∀ {b : Addr} {l : List V}, H b = some (.lst l) → b ≠ sl → H1 b = some (.lst l) := fun e e1 => o1 _ _ e (by simp [e1])
  have at2 : ∀ {b : Addr} {l : List V}, H b = some (.lst l) → b ≠ sl → b ≠ h.en → H2 b = some (.lst l) := fun e e1 e2 => o2 _ _ (at1 e e1) (by simp [npl e, e2, ld e kx])
  refine j.con c0 hat (o2 _ _ z1 (by simp [n1, sa, ld hsl kx])) ⟨ns, kq, rest, seed, at2 hT ts ta1, at2 hQ qs qa, tr⟩
    ⟨es, y1, d1, m2, at2 a2 sb.symm ab.symm, dpAll_tk k _ _ a5.t a3, dpAll_tk k _ _ a5.t a4, a5, by omega⟩
    ⟨xs, y2, d2, l1, at2 b2 sd.symm ad.symm, dpAll_tk k _ _ b5.t b3, dpAll_tk k _ _ b5.t b4, b5, by omega⟩
    ⟨kvs, m3, o2 _ _ (o1 _ _ f2 (by simp [(ld hsl f2).symm])) (by simp [npd f2, (ld he f2).symm, j.nk.symm]), f3, by omega⟩
    (ne_of_none (at1 hT ts) P.new) (ne_of_none (at1 hQ qs) P.new) (ne_of_none z1 P.new) (ne_of_none (at1 he sa.symm) P.new) (ne_of_none (at1 a2 sb.symm) P.new) (ne_of_none (at1 b2 sd.symm) P.new).symm
theorem JK.conS (j : JK K C H p tp q sl h r i) {td : Td} {lo' : Addr} {xs es ys fs : List V} {kvs : KS} {w : Str} {rr : List Int} {cm2 : V} (hst : h.st = "connecting") (c1 : CmdV K H h.cm w rr) (c2 : CmdV K H cm2 w rr) (las : 0 ≤ lasting td h.co ∧ lasting td h.co ≤ h.be)
    (hx : H h.lo = some (.lst xs)) (he : H h.en = some (.lst es)) (kx : H h.ke = some (.dK kvs)) (hy : H r.lo = some (.lst ys)) (hf : H r.en = some (.lst fs)) (ky : H r.ke = some (.dK kvs))
    (z1 : H1 sl = some (.lst (LR.l {r with cl := 0, st := "idle", le := .non, v7 := .non}))) (L : LP K H sl r td ys fs kvs w h.co h.be cm2 H1) (o1 : Off [sl, r.en, r.lo, r.ke] H H1) (k1 : TK H H1)
    (hat : HAt C H2 p {h with lo := lo', cm := .non, co := h.s, be := 0, st := "idle", le := .non}) (P : Post K H1 p h td xs es kvs w H2 lo') :
    JK K C H2 p tp q sl {h with lo := lo', cm := .non, co := h.s, be := 0, st := "idle", le := .non} {r with cl := 0, st := "idle", le := .non, v7 := .non} (i + 1) := by
  have c0 : h.c = 0 := by
    rcases j.ph with ⟨c0, _⟩ | ⟨c0, _⟩ | ⟨c0, _⟩ | ⟨c0, _⟩
    · rcases c0 with c0 | c0
      · rw [hst] at c0; exact absurd c0 (by decide)
      · exact c0.2
    · rcases c0 with c0 | c0
      · rw [hst] at c0; exact absurd c0 (by decide)
      · exact c0.2
    · rw [hst] at c0; exact absurd c0 (by decide)
    · rw [hst] at c0; exact absurd c0 (by decide)
  obtain ⟨x1, y1, d1, a1, a2, a3, a4, a5, a6⟩ := j.en
  obtain ⟨x2, y2, d2, b1, b2, b3, b4, b5, b6⟩ := j.lo
  obtain ⟨kv, f1, f2, f3, f4⟩ := j.ke
  rw [he] at a1; cases a1
  rw [hf] at a2; cases a2
  rw [hx] at b1; cases b1
  rw [hy] at b2; cases b2
  rw [kx] at f1; cases f1
  obtain ⟨npl, npd⟩ := j.np
  obtain ⟨n1, n2, n3⟩ := j.sl_p
  obtain ⟨tq, ts, ta1, tb, tc1, td1, qs, qa, qb, qc, qd, sa, sb, sc, sd, ab, ac, ad, bc, bd, cd⟩ := nd7.mp j.nd
  obtain ⟨ns, kq, rest, seed, hT, hQ, tr⟩ := id j.ta
  have hsl := j.slt
  have k2 := P.tk
  have k := k1.trans k2
  have o2 := P.off
  obtain ⟨zs, l1, l2, l3⟩ := P.lst
  obtain ⟨vs, m1, m2, m3⟩ := L.lst
  obtain ⟨t, av, aw, ax, e1, e2, e3, e4, e5⟩ := L.en
  obtain ⟨t2, av2, aw2, ax2, g1, g2, g3, g4, g5⟩ : ∃ t av aw ax, H2 h.en = some (.lst (es ++ [.ref t])) ∧ H2 t = some (.tup [.int h.co, .int h.be, h.cm, av]) ∧ AnsV K H2 av aw ax ∧ (aw, ax) = ansW td h.co h.be ∧ H2 h.ke = some (.dK (keysA kvs w aw ax)) := by
    rcases P.cm with ⟨g, _⟩ | ⟨_, g⟩
    · obtain ⟨_, z, _⟩ := c1
      rw [z] at g; cases g
    · exact g
  obtain ⟨rfl, rfl⟩ : aw2 = aw ∧ ax2 = ax := by
    have z := g4.trans e4.symm
    cases z; exact ⟨rfl, rfl⟩
  have at1 : ∀ {b : Addr} {l : List V}, H b = some (.lst l) → b ≠ sl → b ≠ r.en → b ≠ r.lo → H1 b = some (.lst l) := fun e e1 e2 e3 => o1 _ _ e (by simp [e1, e2, e3, ld e ky])
  have up2 : ∀ {b : Addr} {l l2 : List V}, H b = some (.lst l) → H1 b = some (.lst l2) → b ≠ h.en → H2 b = some (.lst l2) := fun e e1 e2 => o2 _ _ e1 (by simp [npl e, e2, ld e kx])
  have T1 := at1 hT ts tb td1
  have Q1 := at1 hQ qs qb qd
  have E1 := ent_d (K := K) (k2.t _ _ e2) (c2.tk k) (e3.tk k2)
  have E2 := ent_d (K := K) g2 (c1.tk k) g3
  have gl := lost_gd (co := h.co) (las := lasting td h.co) (be := h.be)
  have gls : GDs 1 (lostD h.co (lasting td h.co) h.be) := by
    have := GDs.app (GDs.nil (n := 1)) gl
    simpa using this
  have hfl : flN ax2 := by obtain ⟨_, _, _, _, g⟩ := e3; exact g
  obtain ⟨u1, u2⟩ := keysA_fl (w := w) (aw := aw2) f3 hfl
  have llen : (lostD h.co (lasting td h.co) h.be).length = (h.be - lasting td h.co).toNat := by unfold lostD; rw [List.length_map, List.length_range]
  obtain ⟨la1, la2⟩ := las
  refine j.con c0 hat (o2 _ _ z1 (by simp [n1, sa, ld hsl kx])) ⟨ns, kq, rest, seed, up2 hT T1 ta1, up2 hQ Q1 qa, tr⟩
    ⟨_, _, d1 ++ [.tuple [.int h.co, .int h.be, cmdD w rr, ansD aw2 ax2]], g1, up2 hf e1 ab.symm, dpAll_one (dpAll_tk k _ _ a5.t a3) E2.1, dpAll_one (dpAll_tk k _ _ a5.t a4) E1.1, a5.snoc E1.2, by rw [List.length_append]; simp; omega⟩
    ⟨_, _, d2 ++ lostD h.co (lasting td h.co) h.be, l1, up2 hy m1 ad.symm, dpAll_app (dpAll_tk k _ _ b5.t b3) l2, dpAll_app (dpAll_tk k _ _ b5.t b4) (dpAll_tk k2 _ _ gls.t m2), b5.app gl, by rw [List.length_append, llen]; omega⟩
    ⟨_, g5, o2 _ _ e5 (by simp [npd ky, (ld he ky).symm, j.nk.symm]), u1, by omega⟩
    (ne_of_none T1 P.new) (ne_of_none Q1 P.new) (ne_of_none z1 P.new) (ne_of_none (at1 he sa.symm ab ad) P.new) (ne_of_none e1 P.new) (ne_of_none m1 P.new).symm
/-- what the host needs to compare -/
theorem JK.pre (j : JK K C H p tp q sl h r i) {td : Td} (hi : i ≤ 100) (las : 0 ≤ lasting td h.co ∧ lasting td h.co ≤ h.be) {xs es : List V} {kvs : KS} {w : Str} (hx : H h.lo = some (.lst xs)) (he : H h.en = some (.lst es)) (kx : H h.ke = some (.dK kvs))
    (cm : h.cm = .non ∨ ∃ rr, CmdV K H h.cm w rr ∧ 1 ≤ h.be) (o1 : Off [sl, r.en, r.lo, r.ke] H H1) (k1 : TK H H1) : Pre K H1 h td xs es kvs w := by
  obtain ⟨x1, y1, d1, a1, a2, a3, a4, a5, a6⟩ := j.en
  obtain ⟨x2, y2, d2, b1, b2, b3, b4, b5, b6⟩ := j.lo
  obtain ⟨kv, f1, f2, f3, f4⟩ := j.ke
  rw [he] at a1; cases a1
  rw [hx] at b1; cases b1
  rw [kx] at f1; cases f1
  have hsl := j.slt
  obtain ⟨tq, ts, ta1, tb, tc1, td1, qs, qa, qb, qc, qd, sa, sb, sc, sd, ab, ac, ad, bc, bd, cd⟩ := nd7.mp j.nd
  have bb := j.be
  have e1 := DpAll.len a3
  have e2 := DpAll.len b3
  refine ⟨o1 _ _ hx (by simp [sc.symm, bc.symm, cd, ld hx f2]), o1 _ _ he (by simp [sa.symm, ab, ad, ld he f2]), o1 _ _ kx (by simp [(ld hsl kx).symm, (ld a2 kx).symm, (ld b2 kx).symm, j.nk]), by omega, bb, ⟨las.1, by omega⟩, by omega, by omega, ?_⟩
  rcases cm with c | ⟨rr, c, g⟩
  · exact .inl c
  · exact .inr ⟨rr, c.tk k1, g⟩
end
end Sg

set_option Elab.async false
set_option linter.all false
set_option maxRecDepth 100000
set_option maxHeartbeats 8000000
namespace Sg
open PySem PySem.Spec PyProof.Rows L2

theorem scLaw : FnScope ["script", "tape", "host", "state", "turn", "command", "due", "letter", "taken"] ["script"] (defScope sLaw) := ⟨rfl, rfl, rfl, by decide +kernel, rfl, by decide +kernel, by decide +kernel⟩
section
variable {K : PySem.W.Frag} {C : Addr} {H H1 H2 : Hp} {p tp q sl : Addr} {h : HR} {r : LR} {i : Nat}
theorem JK.hatx (j : JK K C H p tp q sl h r i) (o : Off [sl, r.en, r.lo, r.ke] H H1) : HAt C H1 p h := by
  obtain ⟨npl, npd⟩ := j.np
  obtain ⟨x1, y1, d1, a1, a2, _⟩ := j.en
  obtain ⟨x2, y2, d2, b1, b2, _⟩ := j.lo
  obtain ⟨kv, f1, f2, _⟩ := j.ke
  exact j.hat.off o (by simp [(npl j.slt).symm, (npl a2).symm, (npl b2).symm, (npd f2).symm])
theorem DoL.cmd {K : PySem.W.Frag} {H : Hp} {le cv : V} {w : Str} {rr : List Int} (h : DoL K H le cv w rr) : CmdV K H cv w rr := by
  obtain ⟨_, _, _, _, _, _, _, g⟩ := h
  exact g
end
section
variable {P : Program} {wd : World} {K : PySem.W.Frag} {mg : Str → Option Value} {base : Heap} {f fN fI fB fE fD m1 m2 m3 m4 m5 m6 C : Addr} {fd fdN fdI fdB fdE fdD d1 d2 d3 d4 d5 d6 : FuncData}
theorem ok_law (F : Fun K "law" "law" sLaw f fd) (Tx : HT5 K mg C) (B : BB5 mg) (M : Mk K C fI) (GI : FnOk P wd K mg base CX0 1 fI fdI ["self", "number"] (spInit C)) (bI : Binds K fdI ["self", "number"] [])
    (GN : Def P wd K mg base CX0 "_law_next" 1 ["tape", "many"] (spNext K) fN fdN) (GB : Def P wd K mg base CX0 "_law_begin" 2 ["tape", "state"] (spLBegin K) fB fdB) (GE : Def P wd K mg base CX0 "_law_letter" 2 ["tape", "state"] (spLetter K) fE fdE) (GD : Def P wd K mg base CX0 "_law_due" 3 ["state", "letter"] (spDue K) fD fdD)
    (Mbg : Mth P wd K mg base CX0 C "begin" 4 ["self", "command"] (spBegin K C) m1 d1) (Mtk : Mth P wd K mg base CX0 C "take" 4 ["self", "letter"] (spTake K C) m2 d2) (Mag : Mth P wd K mg base CX0 C "again" 1 ["self"] (spAgain C) m3 d3)
    (Men : Mth P wd K mg base CX0 C "ended" 1 ["self"] (spEnded C) m4 d4) (Mlo : Mth P wd K mg base CX0 C "lost" 1 ["self"] (spLost C) m5 d5) (Mky : Mth P wd K mg base CX0 C "key" 1 ["self", "namespace"] (spKey C) m6 d6) :
    FnOk P wd K mg base CX0 6 f fd ["script"] (spLaw K) := by
  refine F.ok scLaw (fun vs H Q E h => ?_) (fun cdv A outer s H vs Q E hr h => ?_)
  · obtain ⟨a, ns, rfl, _⟩ := h
    rfl
  · obtain ⟨a, ns, rfl, hS, hlen, kk⟩ := h
    have hr1 : Room 1 _ := hr.mono (by decide)
    have hr2 : Room 2 _ := hr.mono (by decide)
    have hr3 : Room 3 _ := hr.mono (by decide)
    have hr4 : Room 4 _ := hr.mono (by decide)
    refine ⟨_, (pss_cons (ps_set (i := 1) scLaw.nd rfl (Or.inl rfl) (pe_lst (pa_cons (pe_callTy call_list_of (by rfl) B.list (by decide +kernel) (pa_cons (pv 0) pa_nil)) (pa_cons pe_int (pa_cons pe_int (pa_cons pe_int pa_nil))))))
      (pss_cons (ps_set (i := 2) scLaw.nd rfl (Or.inl rfl) (pe_make M GI hr2 (by rfl) Tx.gC bI .nil pass0 (pa_cons pe_int pa_nil)))
      (pss_cons (ps_set (i := 3) scLaw.nd rfl (Or.inl rfl) (pe_lst (pa_cons pe_int (pa_cons pe_int (pa_cons pe_str (pa_cons pe_non (pa_cons (pe_lst pa_nil) (pa_cons (pe_lst pa_nil) (pa_cons pe_dnewK (pa_cons pe_non pa_nil))))))))))
      (pss_cons (ps_for PassesOwn.never rfl (pi_range1 (by rfl) B.range (pa_cons (pe_op op_add pe_int (pe_call GN.ok hr1 (by rfl) GN.mg GN.kp GN.bd .nil pass0 (pa_cons (pv 1) (pa_cons pe_int pa_nil)))) pa_nil)) (pg_name (i := 4) scLaw.nd rfl (Or.inl rfl))
      (Evl.pss_cut (ps_if (pt_cmpR op_eq (pe_call GN.ok hr1 (by rfl) GN.mg GN.kp GN.bd .nil pass0 (pa_cons (pv 1) (pa_cons pe_int pa_nil))) pe_int (nomark _))
      (pss_cons (ps_asg (pe_call GB.ok hr2 (by rfl) GB.mg GB.kp GB.bd .nil pass0 (pa_cons (pv 1) (pa_cons (pv 3) pa_nil))) (pg_tup (by rfl) (pgs_cons (pg_name (i := 5) scLaw.nd rfl (Or.inl rfl)) (pgs_cons (pg_name (i := 6) scLaw.nd rfl (Or.inl rfl)) L2.pgs_nil))))
      (pss_one (ps_if (pt_cmpR (op_neD hr.units) (pe_meth (pv 2) Tx.cl Mbg.me Mbg.ok hr4 Mbg.bd .nil pass0 (pa_cons (pv 5) pa_nil)) (pv 6) (nomark _))
      (pss_one (ps_ret pe_bl)) pss_nil))) (pss_cons (ps_set (i := 7) scLaw.nd rfl (Or.inl rfl) (pe_call GE.ok hr2 (by rfl) GE.mg GE.kp GE.bd .nil pass0 (pa_cons (pv 1) (pa_cons (pv 3) pa_nil))))
      (pss_cons (ps_set (i := 6) scLaw.nd rfl (Or.inl rfl) (pe_call GD.ok hr3 (by rfl) GD.mg GD.kp GD.bd .nil pass0 (pa_cons (pv 3) (pa_cons (pv 7) pa_nil))))
      (pss_cons (ps_set (i := 8) scLaw.nd rfl (Or.inl rfl) (pe_meth (pv 2) Tx.cl Mtk.me Mtk.ok hr4 Mtk.bd .nil pass0 (pa_cons (pv 7) pa_nil)))
      (pss_one (ps_if (PW.pt (pw_or (pt_not (pt_val (pe_callB call_isi (by rfl) B.isi boot_isi (pa_cons (pv 8) (pa_cons (pe_bltn (v := .ty "bool") (by rfl) B.bool boot_bool rfl) pa_nil))))) (pw_or1 (pt_cmpR op_ne (pv 8) (pv 6) (nomark _)))))
      (pss_one (ps_ret pe_bl)) pss_nil))))))
      (pss_cons (ps_if (PW.pt (pw_or (pt_cmpR (op_neD hr.units) (pe_meth0 (pv 2) Tx.cl Mag.me Mag.ok hr1 Mag.bd .nil pass0) (pe_ix ix_list (pv 3) pe_int (fun _ _ => rfl)) (nomark _)) (pw_or (pt_cmpR op_ne (pe_fld (pv 2) rfl) (pe_ix ix_list (pv 3) pe_int (fun _ _ => rfl)) (nomark _)) (pw_or1 (pt_cmpR op_ne (pe_fld (pv 2) rfl) (pe_ix ix_list (pv 3) pe_int (fun _ _ => rfl)) (nomark _))))))
      (pss_one (ps_ret pe_bl)) pss_nil)
      (pss_one (ps_if (PW.pt (pw_or (pt_cmpR (op_neD hr.units) (pe_meth0 (pv 2) Tx.cl Men.me Men.ok hr1 Men.bd .nil pass0) (pe_ix ix_list (pv 3) pe_int (fun _ _ => rfl)) (nomark _)) (pw_or (pt_cmpR (op_neD hr.units) (pe_meth0 (pv 2) Tx.cl Mlo.me Mlo.ok hr1 Mlo.bd .nil pass0) (pe_ix ix_list (pv 3) pe_int (fun _ _ => rfl)) (nomark _)) (pw_or1 (pt_cmpR (op_neD hr.units) (pe_meth (pv 2) Tx.cl Mky.me Mky.ok hr1 Mky.bd .nil pass0 (pa_cons pe_int pa_nil)) (pe_dget1 (hu_of hr) (pe_ix ix_list (pv 3) pe_int (fun _ _ => rfl)) pe_int ⟨rfl, rfl, rfl, rfl⟩) (nomark _))))))
      (pss_one (ps_ret pe_bl)) pss_nil)))))
      (pss_one (ps_ret pe_bl)))))), ?_⟩
    -- tape = [list(script), 0, 0, 13]
    refine ⟨_, rfl, a, _, rfl, .inl hS, fun q hq => ⟨by show 4 ≤ sizeLine; decide, fun tp hp => ?_⟩⟩
    have nqp : q ≠ tp := fun e => by rw [e] at hp; rw [upd_same] at hp; cases hp
    have t1 : TapeQ K (upd (upd H q (.lst (ns.map V.int))) tp (.lst [.ref q, .int 0, .int 0, .int 13])) tp q :=
      ⟨ns, 0, 0, 13, upd_same, by rw [upd_ne nqp, upd_same], nqp, by decide, by decide, by decide⟩
    generalize hH1 : upd (upd H q (.lst (ns.map V.int))) tp _ = H1
    rw [hH1] at t1
    -- host = Host(3)
    refine fun p dx hp hdx hne => ?_
    have s2 : Same H1 (upd (upd H1 dx (.own p)) p (.ins C dx [])) := fun x o hx => by
      rw [upd_ne (ne_of_none hx hp), upd_ne (ne_of_none hx hdx)]; exact hx
    have hp2 : (upd (upd H1 dx (.own p)) p (.ins C dx [])) p = some (.ins C dx []) := upd_same
    generalize upd (upd H1 dx (.own p)) p (.ins C dx []) = H2 at s2 hp2
    have t2 := t1.same s2
    refine ⟨p, dx, 3, rfl, hp2, fun ke en lo H3 hat hke hen hlo fke fen flo nel o3 => ⟨rfl, ?_⟩⟩
    obtain ⟨tl, htl⟩ := t2.lst
    obtain ⟨ns0, k0, re0, se0, hT, hQ, tr⟩ := id t2
    have t3 : TapeQ K H3 tp q := t2.off o3 (by simpa using ne_of hT hp2 (by intro z; cases z)) (by simpa using ne_of hQ hp2 (by intro z; cases z))
    have n1 : tp ≠ en := ne_of_none hT fen
    have n2 : tp ≠ lo := ne_of_none hT flo
    have n3 : q ≠ en := ne_of_none hQ fen
    have n4 : q ≠ lo := ne_of_none hQ flo
    -- state
    refine ⟨by show 0 ≤ sizeLine; decide, fun e1 he1 => ⟨by show 0 ≤ sizeLine; decide, fun e2 he2 => fun d hd => ⟨by show 8 ≤ sizeLine; decide, fun sl hsl => ?_⟩⟩⟩
    have s4 := same_new (o := .lst []) he1
    have g1 : (upd H3 e1 (.lst [])) e1 = some (.lst []) := upd_same
    generalize upd H3 e1 (.lst []) = H4 at s4 g1 he2 hd hsl
    have s5 := same_new (o := .lst []) he2
    have g2 : (upd H4 e2 (.lst [])) e2 = some (.lst []) := upd_same
    have m12 : e1 ≠ e2 := ne_of_none g1 he2
    generalize upd H4 e2 (.lst []) = H5 at s5 g2 hd hsl
    have s6 := same_new (o := .dK []) hd
    have g3 : (upd H5 d (.dK [])) d = some (.dK []) := upd_same
    generalize upd H5 d (.dK []) = H6 at s6 g3 hsl
    have s7 := same_new (o := .lst (LR.l ⟨0, 0, "new", .non, e1, e2, d, .non⟩)) hsl
    have g4 : (upd H6 sl (.lst (LR.l ⟨0, 0, "new", .non, e1, e2, d, .non⟩))) sl = some (.lst (LR.l ⟨0, 0, "new", .non, e1, e2, d, .non⟩)) := upd_same
    have s37 := ((s4.trans s5).trans s6).trans s7
    have s36 := (s4.trans s5).trans s6
    obtain ⟨ns3, k3, re3, se3, hT3, hQ3, _⟩ := id t3
    have J0 : JK K C (upd H6 sl (.lst (LR.l ⟨0, 0, "new", .non, e1, e2, d, .non⟩))) p tp q sl ⟨3, 0, 0, "new", .non, 0, 0, .non, ke, en, lo⟩ ⟨0, 0, "new", .non, e1, e2, d, .non⟩ 0 := by
      refine ⟨hat.same s37, rfl, rfl, rfl, g4, t3.same s37, ⟨[], [], [], s37 _ _ hen, s7 _ _ (s6 _ _ (s5 _ _ g1)), .nil, .nil, .nil, Nat.le_refl _⟩, ⟨[], [], [], s37 _ _ hlo, s7 _ _ (s6 _ _ g2), .nil, .nil, .nil, (by show (0 : Int) + 0 ≤ 0; decide)⟩,
        ⟨[], s37 _ _ hke, s7 _ _ g3, (fun p hp => by cases hp), Nat.le_refl _⟩, ⟨.none, .non, .non, gd_none⟩, Int.le_refl _, .inl ⟨.inl rfl, rfl, rfl, rfl, rfl⟩, nd7.mpr ⟨nqp.symm, ne_of_none (s36 _ _ hT3) hsl, n1, ne_of_none hT3 he1, n2, ne_of_none (s4 _ _ hT3) he2, ne_of_none (s36 _ _ hQ3) hsl, n3, ne_of_none hQ3 he1, n4, ne_of_none (s4 _ _ hQ3) he2,
          (ne_of_none (s36 _ _ hen) hsl).symm, (ne_of_none (s6 _ _ (s5 _ _ g1)) hsl).symm, (ne_of_none (s36 _ _ hlo) hsl).symm, (ne_of_none (s6 _ _ g2) hsl).symm, ne_of_none hen he1, nel, ne_of_none (s4 _ _ hen) he2, (ne_of_none hlo he1).symm, m12, ne_of_none (s4 _ _ hlo) he2⟩, ne_of_none (s5 _ _ (s4 _ _ hke)) hd⟩
    generalize hH7 : upd H6 sl _ = H7
    have J7 : JK K C H7 p tp q sl ⟨3, 0, 0, "new", .non, 0, 0, .non, ke, en, lo⟩ ⟨0, 0, "new", .non, e1, e2, d, .non⟩ 0 := by rw [← hH7]; exact J0
    -- for turn in range(4 + _law_next(tape, 27))
    refine ⟨_, rfl, tp, q, 27, rfl, J7.ta, by decide, by decide, fun rn HA r0 r1 oA tA => ⟨_, _, rfl, rfl, nil_ ⟨_, rfl, by omega, by omega, ?_⟩⟩⟩
    have JA := J7.tape oA tA
    refine for_range (lo := 0) (n := (4 + rn).toNat) (fun i σ H' => ∃ (x4 x5 x6 x7 x8 : Option V) (h : HR) (r : LR), σ = [some (.ref a), some (.ref tp), some (.ref p), some (.ref sl), x4, x5, x6, x7, x8] ∧ JK K C H' p tp q sl h r i) ?_ ?_ ?_
    · exact ⟨_, _, _, _, _, _, _, rfl, JA⟩
    · rintro i σ HB hi ⟨x4, x5, x6, x7, x8, h, r, rfl, j⟩
      have i100 : i ≤ 100 := by omega
      refine ⟨fun σ H' => ∃ (x5 x6 x7 x8 : Option V) (h : HR) (r : LR), σ = [some (.ref a), some (.ref tp), some (.ref p), some (.ref sl), some (.int (0 + (i : Int))), x5, x6, x7, x8] ∧ JK K C H' p tp q sl h r (i + 1), ⟨_, rfl, tp, q, 3, rfl, j.ta, by decide, by decide, fun r3 HC _ _ oC tC => ⟨rfl, _, rfl, ite2 (fun _ => ?_) (fun _ => ?_)⟩⟩, ?_⟩
      · -- begin
        have J := j.tape oC tC
        obtain ⟨kvs, f1, f2, f3, f4⟩ := J.ke
        obtain ⟨_, ts, _, _, _, _, qs, _⟩ := nd7.mp J.nd
        refine ⟨_, rfl, _, rfl, tp, q, sl, r, kvs, rfl, J.ta, J.slt, f2, ts.symm, qs, fun u cv w rr HD c tD k1 o1 hcase => ?_⟩
        obtain ⟨dx1, hp1⟩ := J.hat1 o1
        have kt : HD h.ke = some (.dK kvs) := by
          obtain ⟨tl1, htl1⟩ := J.ta.lst
          exact o1 _ _ f1 (by simp [(ld htl1 f1).symm, (ld J.slt f1).symm])
        rcases hcase with ⟨er, t, hu, z1, z2⟩ | ⟨er, t, hu, z1, z2⟩ | ⟨er1, er2, hu, z1⟩
        · refine ⟨u, _, rfl, SqT.of hu, rfl, _, _, rfl, _, _, rfl, rfl, ?_⟩
          refine ⟨_, rfl, p, dx1, _, rfl, hp1, hf_no (by decide +kernel), _, rfl, p, h, cv, w, rr, kvs, rfl, ⟨dx1, hp1⟩, c, kt, ?_, ?_, ?_⟩
          · intro e t2 HE _ hat z3 o2
            have JJ := J.bnew o1 tD k1 e z1 z2 hat z3 o2
            obtain ⟨d0, D1, D2, g⟩ := JJ.le
            have sh := g.sh (by decide)
            refine ⟨_, rfl, d0, d0, D1, D2, sh, sh, _, rfl, ?_⟩
            rw [SeqAt.eqv_refl _ (SeqAt.canLay_of_shaped sh)]
            exact iteF ⟨_, _, _, _, _, _, rfl, JJ⟩
          · intro e; exact absurd (e.symm.trans (J.est.trans er)) (by decide)
          · intro y1 y2; exact absurd (J.est.trans er) y1
        · refine ⟨u, _, rfl, SqT.of hu, rfl, _, _, rfl, _, _, rfl, rfl, ?_⟩
          refine ⟨_, rfl, p, dx1, _, rfl, hp1, hf_no (by decide +kernel), _, rfl, p, h, cv, w, rr, kvs, rfl, ⟨dx1, hp1⟩, c, kt, ?_, ?_, ?_⟩
          · intro e; exact absurd (e.symm.trans (J.est.trans er)) (by decide)
          · intro e t2 HE _ hat z3 o2
            have JJ := J.bidle o1 tD k1 e c f3 z1 z2 hat z3 o2
            obtain ⟨d0, D1, D2, g⟩ := JJ.le
            have sh := g.sh (by decide)
            refine ⟨_, rfl, d0, d0, D1, D2, sh, sh, _, rfl, ?_⟩
            rw [SeqAt.eqv_refl _ (SeqAt.canLay_of_shaped sh)]
            exact iteF ⟨_, _, _, _, _, _, rfl, JJ⟩
          · intro y1 y2; exact absurd (J.est.trans er) y2
        · refine ⟨u, _, rfl, SqT.of hu, rfl, _, _, rfl, _, _, rfl, rfl, ?_⟩
          refine ⟨_, rfl, p, dx1, _, rfl, hp1, hf_no (by decide +kernel), _, rfl, p, h, cv, w, rr, kvs, rfl, ⟨dx1, hp1⟩, c, kt, ?_, ?_, ?_⟩
          · intro e; exact absurd (J.est.symm.trans e) er1
          · intro e; exact absurd (J.est.symm.trans e) er2
          · intro _ _
            have JJ := J.bno o1 tD k1 z1
            refine ⟨_, rfl, .none, .none, .non, .non, rfl, rfl, _, rfl, ?_⟩
            rw [SeqAt.eqv_refl _ (SeqAt.canLay_of_shaped (show SeqAt.shaped PyData.none = true from rfl))]
            exact iteF ⟨_, _, _, _, _, _, rfl, JJ⟩
      · -- a letter
        have J0 := j.tape oC tC
        obtain ⟨mo, v7, mo0, mo1, vf⟩ := J0.v7 i100
        obtain ⟨_, ts, _, _, _, _, _, _, _, _, _, _, sb, _, sd, _, _, _, _, bd, _⟩ := nd7.mp J0.nd
        refine ⟨_, rfl, _, rfl, tp, q, sl, r, mo, rfl, J0.ta, J0.slt, v7, mo0, mo1, ts.symm, fun lv L HD hL hB oD tD => ?_⟩
        have J1 := J0.tape oD tD
        have eo : oc h L = oc (hOf r) L := oc_eq J1.hn J1.es J1.est (fun z => (J1.wt z).2.2.2.1)
        obtain ⟨xs1, ys1, ds1, en1, en2, en3, en4, en5, en6⟩ := J1.en
        obtain ⟨xs2, ys2, ds2, lo1, lo2, lo3, lo4, lo5, lo6⟩ := J1.lo
        obtain ⟨kvs, f1, f2, f3, f4⟩ := J1.ke
        have l1 := DpAll.len en3
        have l2 := DpAll.len en4
        have l3 := DpAll.len lo3
        have l4 := DpAll.len lo4
        have bb := J1.be
        refine ⟨_, rfl, _, rfl, sl, r, lv, L, mo, rfl, J1.slt, hL, hB, sb, sd, bd, ?_, ?_, ?_, ?_, ?_⟩
        · intro e HE sE
          have E := eo.trans e
          have k := TK.of sE
          obtain ⟨dx, hp2⟩ := J1.hat.same sE
          refine ⟨_, rfl, p, dx, _, rfl, hp2, hf_no (by decide +kernel), _, rfl, p, h, lv, _, rfl, ⟨dx, hp2⟩, hL.tk k, ?_, ?_, ?_, ?_, ?_⟩
          · intro _ HF sF
            have J := ((J1.same sE).same sF).mono (Nat.le_succ i)
            refine ⟨_, rfl, _, _, _, _, true, rfl, .ty "bool", .base (.bl _), kit_ty (by decide +kernel), _, rfl, iteF ⟨_, rfl, _, rfl, rfl, _, rfl, ?_⟩⟩
            rw [decide_eq_true (rfl : V.bl false = V.bl false)]
            exact iteF ⟨_, _, _, _, _, _, rfl, J⟩
          · intro e'; rw [E] at e'; cases e'
          · intro td' e'; rw [E] at e'; cases e'
          · intro e'; rw [E] at e'; cases e'
          · intro aw' ax' e'; rw [E] at e'; cases e'
        · intro e t HE z1 z2 oE k
          have E := eo.trans e
          obtain ⟨dx, hp2⟩ := J1.hatx (oE.wk (by simp))
          refine ⟨_, rfl, p, dx, _, rfl, hp2, hf_no (by decide +kernel), _, rfl, p, h, lv, _, rfl, ⟨dx, hp2⟩, hL.tk k, ?_, ?_, ?_, ?_, ?_⟩
          · intro e'; rw [E] at e'; cases e'
          · intro _ t2 HF _ hat z3 o2
            have J := J1.nw oE k (oc_nw E) z1 z2 hat z3 o2
            refine ⟨_, rfl, _, _, _, _, true, rfl, .ty "bool", .base (.bl _), kit_ty (by decide +kernel), _, rfl, iteF ⟨_, rfl, _, rfl, rfl, _, rfl, ?_⟩⟩
            rw [decide_eq_true (rfl : V.bl true = V.bl true)]
            exact iteF ⟨_, _, _, _, _, _, rfl, J⟩
          · intro td' e'; rw [E] at e'; cases e'
          · intro e'; rw [E] at e'; cases e'
          · intro aw' ax' e'; rw [E] at e'; cases e'
        · intro td e
          have E := eo.trans e
          obtain ⟨hst, aa, bb', rfl⟩ := oc_con E
          have las := vf aa bb' td hB hst
          rcases J1.ph with ⟨_, c1, c2, c3, hv⟩ | ⟨_, w, rr, a7, cm2, c1, c2, c3, c4, c5⟩ | ⟨c0, _⟩ | ⟨c0, _⟩
          · refine .inl ⟨hv, fun HE z1 oE k => ?_⟩
            have oE' : Off [sl, r.en, r.lo, r.ke] HD HE := oE.wk (by simp)
            obtain ⟨dx, hp2⟩ := J1.hatx oE'
            refine ⟨_, rfl, p, dx, _, rfl, hp2, hf_no (by decide +kernel), _, rfl, p, h, lv, _, rfl, ⟨dx, hp2⟩, hL.tk k, ?_, ?_, ?_, ?_, ?_⟩
            · intro e'; rw [E] at e'; cases e'
            · intro e'; rw [E] at e'; cases e'
            · intro td' e'
              rw [E] at e'; cases e'
              refine ⟨xs2, xs1, kvs, "", J1.pre i100 las lo1 en1 f1 (.inl c1) oE' k, fun lo' HF hat PP => ?_⟩
              have J := J1.conN hst hv las lo1 en1 f1 z1 oE k hat PP
              refine ⟨_, rfl, _, _, _, _, true, rfl, .ty "bool", .base (.bl _), kit_ty (by decide +kernel), _, rfl, iteF ⟨_, rfl, _, rfl, rfl, _, rfl, ?_⟩⟩
              rw [decide_eq_true (rfl : V.bl true = V.bl true)]
              exact iteF ⟨_, _, _, _, _, _, rfl, J⟩
            · intro e'; rw [E] at e'; cases e'
            · intro aw' ax' e'; rw [E] at e'; cases e'
          · refine .inr ⟨a7, h.co, h.be, cm2, w, rr, ys2, ys1, kvs, c3, c4, c5, lo2, en2, f2, by omega, c2, by omega, by omega, las.1, las.2, fun HE z1 LL oE k => ?_⟩
            obtain ⟨dx, hp2⟩ := J1.hatx oE
            refine ⟨_, rfl, p, dx, _, rfl, hp2, hf_no (by decide +kernel), _, rfl, p, h, lv, _, rfl, ⟨dx, hp2⟩, hL.tk k, ?_, ?_, ?_, ?_, ?_⟩
            · intro e'; rw [E] at e'; cases e'
            · intro e'; rw [E] at e'; cases e'
            · intro td' e'
              rw [E] at e'; cases e'
              refine ⟨xs2, xs1, kvs, w, J1.pre i100 las lo1 en1 f1 (.inr ⟨rr, c1, c2⟩) oE k, fun lo' HF hat PP => ?_⟩
              have J := J1.conS hst c1 c5 las lo1 en1 f1 lo2 en2 f2 z1 LL oE k hat PP
              refine ⟨_, rfl, _, _, _, _, true, rfl, .ty "bool", .base (.bl _), kit_ty (by decide +kernel), _, rfl, iteF ⟨_, rfl, _, rfl, rfl, _, rfl, ?_⟩⟩
              rw [decide_eq_true (rfl : V.bl true = V.bl true)]
              exact iteF ⟨_, _, _, _, _, _, rfl, J⟩
            · intro e'; rw [E] at e'; cases e'
            · intro aw' ax' e'; rw [E] at e'; cases e'
          · rw [hst] at c0; exact absurd c0 (by decide)
          · rw [hst] at c0; exact absurd c0 (by decide)
        · intro aw ax e
          have E := eo.trans e
          have hst := oc_wait (.inr ⟨aw, ax, E⟩)
          obtain ⟨p1, p2, p3, p4, p5, w, rr, cv2, c1, c2⟩ := J1.wt hst
          refine ⟨cv2, w, rr, ys1, kvs, c2, en2, by omega, f2, by omega, fun t av HE z1 z2 z3 z4 z5 oE k => ?_⟩
          have oE' : Off [sl, r.en, r.lo, r.ke] HD HE := oE.wk (by simp)
          obtain ⟨dx, hp2⟩ := J1.hatx oE'
          obtain ⟨_, _, _, _, _, _, _, _, _, _, _, sa, _, _, _, ab, _, ad, _⟩ := nd7.mp J1.nd
          have kE : HE h.ke = some (.dK kvs) := oE' _ _ f1 (by simp [(ld J1.slt f1).symm, (ld en2 f1).symm, (ld lo2 f1).symm, J1.nk])
          have eE : HE h.en = some (.lst xs1) := oE' _ _ en1 (by simp [sa.symm, ab, ad, ld en1 f2])
          refine ⟨_, rfl, p, dx, _, rfl, hp2, hf_no (by decide +kernel), _, rfl, p, h, lv, _, rfl, ⟨dx, hp2⟩, hL.tk k, ?_, ?_, ?_, ?_, ?_⟩
          · intro e'; rw [E] at e'; cases e'
          · intro e'; rw [E] at e'; cases e'
          · intro td' e'; rw [E] at e'; cases e'
          · intro e'; rw [E] at e'; cases e'
          · intro aw' ax' e'
            rw [E] at e'; cases e'
            refine ⟨w, rr, xs1, kvs, c1.tk k, kE, by omega, eE, by omega, fun t2 av2 HF _ hat y2 y3 y4 y5 o2 k2 => ?_⟩
            have J := J1.ended hst c1 c2.cmd en1 en2 f1 f2 z1 z2 z3 z4 z5 oE k hat y2 y3 y4 y5 o2 k2
            refine ⟨_, rfl, _, _, _, _, true, rfl, .ty "bool", .base (.bl _), kit_ty (by decide +kernel), _, rfl, iteF ⟨_, rfl, _, rfl, rfl, _, rfl, ?_⟩⟩
            rw [decide_eq_true (rfl : V.bl true = V.bl true)]
            exact iteF ⟨_, _, _, _, _, _, rfl, J⟩
        · intro e
          have E := eo.trans e
          have hst := oc_wait (.inl E)
          obtain ⟨p1, p2, p3, p4, p5, w, rr, cv2, c1, c2⟩ := J1.wt hst
          refine ⟨cv2, w, rr, c2, fun a7 HE z1 z2 oE k => ?_⟩
          obtain ⟨dx, hp2⟩ := J1.hatx (oE.wk (by simp))
          refine ⟨_, rfl, p, dx, _, rfl, hp2, hf_no (by decide +kernel), _, rfl, p, h, lv, _, rfl, ⟨dx, hp2⟩, hL.tk k, ?_, ?_, ?_, ?_, ?_⟩
          · intro e'; rw [E] at e'; cases e'
          · intro e'; rw [E] at e'; cases e'
          · intro td' e'; rw [E] at e'; cases e'
          · intro _ HF hat o2
            have J := J1.lost oE k hst c1 c2.cmd z1 z2 hat o2
            refine ⟨_, rfl, _, _, _, _, true, rfl, .ty "bool", .base (.bl _), kit_ty (by decide +kernel), _, rfl, iteF ⟨_, rfl, _, rfl, rfl, _, rfl, ?_⟩⟩
            rw [decide_eq_true (rfl : V.bl true = V.bl true)]
            exact iteF ⟨_, _, _, _, _, _, rfl, J⟩
          · intro aw' ax' e'; rw [E] at e'; cases e'
      · rintro σ HC ⟨x5, x6, x7, x8, h, r, rfl, J⟩
        obtain ⟨dx, hp⟩ := J.hat
        have hsl := J.slt
        obtain ⟨d0, D1, D2, g⟩ := J.le
        have sh := g.sh (by decide)
        refine ⟨_, rfl, p, dx, _, rfl, hp, hf_no (by decide +kernel), p, h, rfl, ⟨dx, hp⟩, _, rfl, sl, _, _, _, rfl, rfl, SqL.of hsl, atI_nat (j := 3) rfl, d0, d0, D1, D2, sh, sh, _, rfl, ?_⟩
        rw [SeqAt.eqv_refl _ (SeqAt.canLay_of_shaped sh)]
        refine iteF ⟨_, rfl, p, C, dx, _, _, rfl, hp, Tx.cl, Tx.k_st, hf_st, _, rfl, sl, _, _, _, rfl, rfl, SqL.of hsl, atI_nat (j := 2) rfl, rfl, _, rfl, ?_⟩
        rw [decide_eq_true (show V.str h.st = V.str r.st by rw [J.est])]
        refine iteF ⟨_, rfl, p, C, dx, _, _, rfl, hp, Tx.cl, Tx.k_s, hf_s, _, rfl, sl, _, _, _, rfl, rfl, SqL.of hsl, atI_nat (j := 0) rfl, rfl, _, rfl, ?_⟩
        rw [decide_eq_true (show V.int h.s = V.int r.s by rw [J.es])]
        refine iteF ?_
        obtain ⟨xs1, ys1, ds1, en1, en2, en3, en4, en5, _⟩ := J.en
        obtain ⟨xs2, ys2, ds2, lo1, lo2, lo3, lo4, lo5, _⟩ := J.lo
        obtain ⟨kvs, f1, f2, f3, _⟩ := J.ke
        -- ended
        refine ⟨_, rfl, p, dx, _, rfl, hp, hf_no (by decide +kernel), p, h, xs1, rfl, ⟨dx, hp⟩, en1, fun l hl => ?_⟩
        have s1 := same_new (o := .lst xs1) hl
        have hl1 : (upd HC l (.lst xs1)) l = some (.lst xs1) := upd_same
        generalize upd HC l (.lst xs1) = HD at s1 hl1
        have sh1 := en5.sh (by decide)
        refine ⟨_, rfl, sl, _, _, _, rfl, rfl, SqL.of (s1 _ _ hsl), atI_nat (j := 4) rfl, _, _, .lst (SqL.of hl1) (dpAll_same s1 _ _ en3), .lst (SqL.of (s1 _ _ en2)) (dpAll_same s1 _ _ en4), sh1, sh1, _, rfl, ?_⟩
        rw [SeqAt.eqv_refl _ (SeqAt.canLay_of_shaped sh1)]
        -- lost
        refine iteF ⟨_, rfl, p, dx, _, rfl, s1 _ _ hp, hf_no (by decide +kernel), p, h, xs2, rfl, ⟨dx, s1 _ _ hp⟩, s1 _ _ lo1, fun l2 hl2 => ?_⟩
        have s2 := same_new (o := .lst xs2) hl2
        have hl3 : (upd HD l2 (.lst xs2)) l2 = some (.lst xs2) := upd_same
        generalize upd HD l2 (.lst xs2) = HE at s2 hl3
        have s12 := s1.trans s2
        have sh2 := lo5.sh (by decide)
        refine ⟨_, rfl, sl, _, _, _, rfl, rfl, SqL.of (s12 _ _ hsl), atI_nat (j := 5) rfl, _, _, .lst (SqL.of hl3) (dpAll_same s12 _ _ lo3), .lst (SqL.of (s12 _ _ lo2)) (dpAll_same s12 _ _ lo4), sh2, sh2, _, rfl, ?_⟩
        rw [SeqAt.eqv_refl _ (SeqAt.canLay_of_shaped sh2)]
        -- key
        obtain ⟨kd, kg⟩ := fl_dp (K := K) (H := HE) (get_fl (k := Sum.inl 2) f3)
        have sh3 := (kg 0).sh (by decide)
        refine iteF ⟨_, rfl, p, dx, _, rfl, s12 _ _ hp, hf_no (by decide +kernel), p, h, 2, kvs, rfl, ⟨dx, s12 _ _ hp⟩, s12 _ _ f1, ?_⟩
        refine ⟨_, rfl, sl, _, _, _, rfl, rfl, SqL.of (s12 _ _ hsl), atI_nat (j := 6) rfl, r.ke, rfl, .inl ⟨kvs, .inl (s12 _ _ f2)⟩, _, dget (s12 _ _ f2), _, _, kd, kd, sh3, sh3, _, rfl, ?_⟩
        rw [SeqAt.eqv_refl _ (SeqAt.canLay_of_shaped sh3)]
        exact iteF ⟨_, _, _, _, _, _, _, rfl, J.same s12⟩
    · rintro σ HB ⟨x4, x5, x6, x7, x8, h, r, rfl, j⟩
      exact kk _
end
end Sg

set_option Elab.async false
set_option linter.all false
set_option maxRecDepth 100000
set_option maxHeartbeats 8000000
namespace Sg
open PySem PySem.Spec PyProof.Rows L2
theorem all_mk {l : PySem.W.OpenLaw} {w : World} {K : PySem.W.Frag} {h : Heap} {mg : Str → Option Value} {fa C fMI fMB fMA fMT fMK fME fML fMS fMC fMF fMG fMW fMR fMO fMN fN fO fK fB fE fD fL : Addr} (X : K.In h) (G : h.Ns mainGlobals mg) (hfa : mg "law" = some (.ref fa))
    {odMI anMI odMB anMB odMA anMA odMT anMT odMK anMK odME anME odML anML odMS anMS odMC anMC odMF anMF odMG anMG odMW anMW odMR anMR odMO anMO odMN anMN odN anN odO anO odK anK odB anB odE anE odD anD odL anL : Option Addr} {slMI slMB slMA slMT slMK slME slML slMS slMC slMF slMG slMW slMR slMO slMN slN slO slK slB slE slD slL : Array (Option Value)} {ocMI kVMI dcMI pmMI cdMI ctMI ocMB kVMB dcMB pmMB cdMB ctMB ocMA kVMA dcMA pmMA cdMA ctMA ocMT kVMT dcMT pmMT cdMT ctMT ocMK kVMK dcMK pmMK cdMK ctMK ocME kVME dcME pmME cdME ctME ocML kVML dcML pmML cdML ctML ocMS kVMS dcMS pmMS cdMS ctMS ocMC kVMC dcMC pmMC cdMC ctMC ocMF kVMF dcMF pmMF cdMF ctMF ocMG kVMG dcMG pmMG cdMG ctMG ocMW kVMW dcMW pmMW cdMW ctMW ocMR kVMR dcMR pmMR cdMR ctMR ocMO kVMO dcMO pmMO cdMO ctMO ocMN kVMN dcMN pmMN cdMN ctMN ocN kVN dcN pmN cdN ctN ocO kVO dcO pmO cdO ctO ocK kVK dcK pmK cdK ctK ocB kVB dcB pmB cdB ctB ocE kVE dcE pmE cdE ctE ocD kVD dcD pmD cdD ctD ocL kVL dcL pmL cdL ctL : Value} 
    (aC : PySem.W.nsIn K mainGlobals "Host" = some (some (.ref C)))
    (pg : PySem.W.plainGet K C Str.empty = true)
    (hd : PySem.W.hasDictIn K C = true)
    (po : PySem.W.plainOver K C = true)
    (sa : PySem.W.findIn K (.ref C) "__setattr__" = some (some (.builtin "object.__setattr__")))
    (mk : PySem.W.makesIn K C = true)
    (kc : PySem.W.keepIn K (.ref C) = true)
    (n1 : PySem.W.findIn K (.ref C) "number" = some none)
    (n2 : PySem.W.findIn K (.ref C) "session" = some none)
    (n3 : PySem.W.findIn K (.ref C) "counter" = some none)
    (n4 : PySem.W.findIn K (.ref C) "state" = some none)
    (n5 : PySem.W.findIn K (.ref C) "_letter" = some none)
    (n6 : PySem.W.findIn K (.ref C) "_connected" = some none)
    (n7 : PySem.W.findIn K (.ref C) "_begun" = some none)
    (n8 : PySem.W.findIn K (.ref C) "_command" = some none)
    (n9 : PySem.W.findIn K (.ref C) "_keys" = some none)
    (n10 : PySem.W.findIn K (.ref C) "_ended" = some none)
    (n11 : PySem.W.findIn K (.ref C) "_lost" = some none)
    (aMI : PySem.W.findIn K (.ref C) "__init__" = some (some (.ref fMI)))
    (iMI : PySem.W.isFn K (.ref fMI) = true)
    (lMI : K.lookup fMI = some ⟨ocMI, odMI, .func (PySem.W.fnOf "__init__" "Host.__init__" (defArgs (cH 0)) (defBody (cH 0)) (defScope (cH 0)) .none kVMI dcMI pmMI anMI cdMI ctMI), slMI⟩)
    (cMI : PySem.W.codeIn K cdMI "Host.__init__" = true)
    (kMI : PySem.W.keepIn K (.ref fMI) = true)
    (aMB : PySem.W.findIn K (.ref C) "begin" = some (some (.ref fMB)))
    (iMB : PySem.W.isFn K (.ref fMB) = true)
    (lMB : K.lookup fMB = some ⟨ocMB, odMB, .func (PySem.W.fnOf "begin" "Host.begin" (defArgs (cH 1)) (defBody (cH 1)) (defScope (cH 1)) .none kVMB dcMB pmMB anMB cdMB ctMB), slMB⟩)
    (cMB : PySem.W.codeIn K cdMB "Host.begin" = true)
    (kMB : PySem.W.keepIn K (.ref fMB) = true)
    (aMA : PySem.W.findIn K (.ref C) "again" = some (some (.ref fMA)))
    (iMA : PySem.W.isFn K (.ref fMA) = true)
    (lMA : K.lookup fMA = some ⟨ocMA, odMA, .func (PySem.W.fnOf "again" "Host.again" (defArgs (cH 2)) (defBody (cH 2)) (defScope (cH 2)) .none kVMA dcMA pmMA anMA cdMA ctMA), slMA⟩)
    (cMA : PySem.W.codeIn K cdMA "Host.again" = true)
    (kMA : PySem.W.keepIn K (.ref fMA) = true)
    (aMT : PySem.W.findIn K (.ref C) "take" = some (some (.ref fMT)))
    (iMT : PySem.W.isFn K (.ref fMT) = true)
    (lMT : K.lookup fMT = some ⟨ocMT, odMT, .func (PySem.W.fnOf "take" "Host.take" (defArgs (cH 3)) (defBody (cH 3)) (defScope (cH 3)) .none kVMT dcMT pmMT anMT cdMT ctMT), slMT⟩)
    (cMT : PySem.W.codeIn K cdMT "Host.take" = true)
    (kMT : PySem.W.keepIn K (.ref fMT) = true)
    (aMK : PySem.W.findIn K (.ref C) "key" = some (some (.ref fMK)))
    (iMK : PySem.W.isFn K (.ref fMK) = true)
    (lMK : K.lookup fMK = some ⟨ocMK, odMK, .func (PySem.W.fnOf "key" "Host.key" (defArgs (cH 4)) (defBody (cH 4)) (defScope (cH 4)) .none kVMK dcMK pmMK anMK cdMK ctMK), slMK⟩)
    (cMK : PySem.W.codeIn K cdMK "Host.key" = true)
    (kMK : PySem.W.keepIn K (.ref fMK) = true)
    (aME : PySem.W.findIn K (.ref C) "ended" = some (some (.ref fME)))
    (iME : PySem.W.isFn K (.ref fME) = true)
    (lME : K.lookup fME = some ⟨ocME, odME, .func (PySem.W.fnOf "ended" "Host.ended" (defArgs (cH 5)) (defBody (cH 5)) (defScope (cH 5)) .none kVME dcME pmME anME cdME ctME), slME⟩)
    (cME : PySem.W.codeIn K cdME "Host.ended" = true)
    (kME : PySem.W.keepIn K (.ref fME) = true)
    (aML : PySem.W.findIn K (.ref C) "lost" = some (some (.ref fML)))
    (iML : PySem.W.isFn K (.ref fML) = true)
    (lML : K.lookup fML = some ⟨ocML, odML, .func (PySem.W.fnOf "lost" "Host.lost" (defArgs (cH 6)) (defBody (cH 6)) (defScope (cH 6)) .none kVML dcML pmML anML cdML ctML), slML⟩)
    (cML : PySem.W.codeIn K cdML "Host.lost" = true)
    (kML : PySem.W.keepIn K (.ref fML) = true)
    (aMS : PySem.W.findIn K (.ref C) "_begin_session" = some (some (.ref fMS)))
    (iMS : PySem.W.isFn K (.ref fMS) = true)
    (lMS : K.lookup fMS = some ⟨ocMS, odMS, .func (PySem.W.fnOf "_begin_session" "Host._begin_session" (defArgs (cH 7)) (defBody (cH 7)) (defScope (cH 7)) .none kVMS dcMS pmMS anMS cdMS ctMS), slMS⟩)
    (cMS : PySem.W.codeIn K cdMS "Host._begin_session" = true)
    (kMS : PySem.W.keepIn K (.ref fMS) = true)
    (aMC : PySem.W.findIn K (.ref C) "_begin_command" = some (some (.ref fMC)))
    (iMC : PySem.W.isFn K (.ref fMC) = true)
    (lMC : K.lookup fMC = some ⟨ocMC, odMC, .func (PySem.W.fnOf "_begin_command" "Host._begin_command" (defArgs (cH 8)) (defBody (cH 8)) (defScope (cH 8)) .none kVMC dcMC pmMC anMC cdMC ctMC), slMC⟩)
    (cMC : PySem.W.codeIn K cdMC "Host._begin_command" = true)
    (kMC : PySem.W.keepIn K (.ref fMC) = true)
    (aMF : PySem.W.findIn K (.ref C) "_key_for" = some (some (.ref fMF)))
    (iMF : PySem.W.isFn K (.ref fMF) = true)
    (lMF : K.lookup fMF = some ⟨ocMF, odMF, .func (PySem.W.fnOf "_key_for" "Host._key_for" (defArgs (cH 9)) (defBody (cH 9)) (defScope (cH 9)) .none kVMF dcMF pmMF anMF cdMF ctMF), slMF⟩)
    (cMF : PySem.W.codeIn K cdMF "Host._key_for" = true)
    (kMF : PySem.W.keepIn K (.ref fMF) = true)
    (aMG : PySem.W.findIn K (.ref C) "_take_connecting" = some (some (.ref fMG)))
    (iMG : PySem.W.isFn K (.ref fMG) = true)
    (lMG : K.lookup fMG = some ⟨ocMG, odMG, .func (PySem.W.fnOf "_take_connecting" "Host._take_connecting" (defArgs (cH 10)) (defBody (cH 10)) (defScope (cH 10)) .none kVMG dcMG pmMG anMG cdMG ctMG), slMG⟩)
    (cMG : PySem.W.codeIn K cdMG "Host._take_connecting" = true)
    (kMG : PySem.W.keepIn K (.ref fMG) = true)
    (aMW : PySem.W.findIn K (.ref C) "_take_waiting" = some (some (.ref fMW)))
    (iMW : PySem.W.isFn K (.ref fMW) = true)
    (lMW : K.lookup fMW = some ⟨ocMW, odMW, .func (PySem.W.fnOf "_take_waiting" "Host._take_waiting" (defArgs (cH 11)) (defBody (cH 11)) (defScope (cH 11)) .none kVMW dcMW pmMW anMW cdMW ctMW), slMW⟩)
    (cMW : PySem.W.codeIn K cdMW "Host._take_waiting" = true)
    (kMW : PySem.W.keepIn K (.ref fMW) = true)
    (aMR : PySem.W.findIn K (.ref C) "_rest" = some (some (.ref fMR)))
    (iMR : PySem.W.isFn K (.ref fMR) = true)
    (lMR : K.lookup fMR = some ⟨ocMR, odMR, .func (PySem.W.fnOf "_rest" "Host._rest" (defArgs (cH 12)) (defBody (cH 12)) (defScope (cH 12)) .none kVMR dcMR pmMR anMR cdMR ctMR), slMR⟩)
    (cMR : PySem.W.codeIn K cdMR "Host._rest" = true)
    (kMR : PySem.W.keepIn K (.ref fMR) = true)
    (aMO : PySem.W.findIn K (.ref C) "_compare" = some (some (.ref fMO)))
    (iMO : PySem.W.isFn K (.ref fMO) = true)
    (lMO : K.lookup fMO = some ⟨ocMO, odMO, .func (PySem.W.fnOf "_compare" "Host._compare" (defArgs (cH 13)) (defBody (cH 13)) (defScope (cH 13)) .none kVMO dcMO pmMO anMO cdMO ctMO), slMO⟩)
    (cMO : PySem.W.codeIn K cdMO "Host._compare" = true)
    (kMO : PySem.W.keepIn K (.ref fMO) = true)
    (aMN : PySem.W.findIn K (.ref C) "_end" = some (some (.ref fMN)))
    (iMN : PySem.W.isFn K (.ref fMN) = true)
    (lMN : K.lookup fMN = some ⟨ocMN, odMN, .func (PySem.W.fnOf "_end" "Host._end" (defArgs (cH 14)) (defBody (cH 14)) (defScope (cH 14)) .none kVMN dcMN pmMN anMN cdMN ctMN), slMN⟩)
    (cMN : PySem.W.codeIn K cdMN "Host._end" = true)
    (kMN : PySem.W.keepIn K (.ref fMN) = true)
    (aN : PySem.W.nsIn K mainGlobals "_law_next" = some (some (.ref fN)))
    (lN : K.lookup fN = some ⟨ocN, odN, .func (PySem.W.fnOf "_law_next" "_law_next" (defArgs sNext) (defBody sNext) (defScope sNext) .none kVN dcN pmN anN cdN ctN), slN⟩)
    (cN : PySem.W.codeIn K cdN "_law_next" = true)
    (kN : PySem.W.keepIn K (.ref fN) = true)
    (aO : PySem.W.nsIn K mainGlobals "_law_note" = some (some (.ref fO)))
    (lO : K.lookup fO = some ⟨ocO, odO, .func (PySem.W.fnOf "_law_note" "_law_note" (defArgs sNote) (defBody sNote) (defScope sNote) .none kVO dcO pmO anO cdO ctO), slO⟩)
    (cO : PySem.W.codeIn K cdO "_law_note" = true)
    (kO : PySem.W.keepIn K (.ref fO) = true)
    (aK : PySem.W.nsIn K mainGlobals "_law_connected" = some (some (.ref fK)))
    (lK : K.lookup fK = some ⟨ocK, odK, .func (PySem.W.fnOf "_law_connected" "_law_connected" (defArgs sConnd) (defBody sConnd) (defScope sConnd) .none kVK dcK pmK anK cdK ctK), slK⟩)
    (cK : PySem.W.codeIn K cdK "_law_connected" = true)
    (kK : PySem.W.keepIn K (.ref fK) = true)
    (aB : PySem.W.nsIn K mainGlobals "_law_begin" = some (some (.ref fB)))
    (lB : K.lookup fB = some ⟨ocB, odB, .func (PySem.W.fnOf "_law_begin" "_law_begin" (defArgs sLBegin) (defBody sLBegin) (defScope sLBegin) .none kVB dcB pmB anB cdB ctB), slB⟩)
    (cB : PySem.W.codeIn K cdB "_law_begin" = true)
    (kB : PySem.W.keepIn K (.ref fB) = true)
    (aE : PySem.W.nsIn K mainGlobals "_law_letter" = some (some (.ref fE)))
    (lE : K.lookup fE = some ⟨ocE, odE, .func (PySem.W.fnOf "_law_letter" "_law_letter" (defArgs sLetter) (defBody sLetter) (defScope sLetter) .none kVE dcE pmE anE cdE ctE), slE⟩)
    (cE : PySem.W.codeIn K cdE "_law_letter" = true)
    (kE : PySem.W.keepIn K (.ref fE) = true)
    (aD : PySem.W.nsIn K mainGlobals "_law_due" = some (some (.ref fD)))
    (lD : K.lookup fD = some ⟨ocD, odD, .func (PySem.W.fnOf "_law_due" "_law_due" (defArgs sDue) (defBody sDue) (defScope sDue) .none kVD dcD pmD anD cdD ctD), slD⟩)
    (cD : PySem.W.codeIn K cdD "_law_due" = true)
    (kD : PySem.W.keepIn K (.ref fD) = true)
    (aL : PySem.W.nsIn K mainGlobals "law" = some (some (.ref fL)))
    (lL : K.lookup fL = some ⟨ocL, odL, .func (PySem.W.fnOf "law" "law" (defArgs sLaw) (defBody sLaw) (defScope sLaw) .none kVL dcL pmL anL cdL ctL), slL⟩)
    (cL : PySem.W.codeIn K cdL "law" = true)
    (kL : PySem.W.keepIn K (.ref fL) = true)
    (z_len : PySem.W.nsIn K mainGlobals "len" = some none)
    (z_abs : PySem.W.nsIn K mainGlobals "abs" = some none)
    (z_int : PySem.W.nsIn K mainGlobals "int" = some none)
    (z_list : PySem.W.nsIn K mainGlobals "list" = some none)
    (z_range : PySem.W.nsIn K mainGlobals "range" = some none)
    (z_max : PySem.W.nsIn K mainGlobals "max" = some none)
    (z_isinstance : PySem.W.nsIn K mainGlobals "isinstance" = some none)
    (z_bool : PySem.W.nsIn K mainGlobals "bool" = some none)
    : ∃ fd : FuncData, (∀ (s : Shared) (v : Value), BindsTo s fd ⟨[v], []⟩ [("script", v)]) ∧ ∀ base : Heap, K.In base → base.Ns mainGlobals mg → FnOk l.prog w K mg base CX0 6 fa fd ["script"] (spLaw K) := by
  have e := hfa.symm.trans (PySem.W.mg_of X G aL)
  cases e
  have B : BB5 mg := ⟨PySem.W.mg_none_of X G z_len, PySem.W.mg_none_of X G z_abs, PySem.W.mg_none_of X G z_int, PySem.W.mg_none_of X G z_list, PySem.W.mg_none_of X G z_range, PySem.W.mg_none_of X G z_max, PySem.W.mg_none_of X G z_isinstance, PySem.W.mg_none_of X G z_bool⟩
  have Tx : HT5 K mg C := ⟨⟨pg, hd, po, sa⟩, n1, n2, n3, n4, n5, n6, n7, n8, n9, n10, n11, PySem.W.mg_of X G aC⟩
  have FMI := fun_mk (st := (cH 0)) lMI cMI kMI
  have FMB := fun_mk (st := (cH 1)) lMB cMB kMB
  have FMA := fun_mk (st := (cH 2)) lMA cMA kMA
  have FMT := fun_mk (st := (cH 3)) lMT cMT kMT
  have FMK := fun_mk (st := (cH 4)) lMK cMK kMK
  have FME := fun_mk (st := (cH 5)) lME cME kME
  have FML := fun_mk (st := (cH 6)) lML cML kML
  have FMS := fun_mk (st := (cH 7)) lMS cMS kMS
  have FMC := fun_mk (st := (cH 8)) lMC cMC kMC
  have FMF := fun_mk (st := (cH 9)) lMF cMF kMF
  have FMG := fun_mk (st := (cH 10)) lMG cMG kMG
  have FMW := fun_mk (st := (cH 11)) lMW cMW kMW
  have FMR := fun_mk (st := (cH 12)) lMR cMR kMR
  have FMO := fun_mk (st := (cH 13)) lMO cMO kMO
  have FMN := fun_mk (st := (cH 14)) lMN cMN kMN
  have FN := fun_mk (st := sNext) lN cN kN
  have FO := fun_mk (st := sNote) lO cO kO
  have FK := fun_mk (st := sConnd) lK cK kK
  have FB := fun_mk (st := sLBegin) lB cB kB
  have FE := fun_mk (st := sLetter) lE cE kE
  have FD := fun_mk (st := sDue) lD cD kD
  have FL := fun_mk (st := sLaw) lL cL kL
  have bMI := FMI.binds (ps := ["self", "number"]) fun _ _ _ _ _ _ us hl => match us, hl with | [_, _], _ => rfl
  have bMB := FMB.binds (ps := ["self", "command"]) fun _ _ _ _ _ _ us hl => match us, hl with | [_, _], _ => rfl
  have bMA := FMA.binds (ps := ["self"]) fun _ _ _ _ _ _ us hl => match us, hl with | [_], _ => rfl
  have bMT := FMT.binds (ps := ["self", "letter"]) fun _ _ _ _ _ _ us hl => match us, hl with | [_, _], _ => rfl
  have bMK := FMK.binds (ps := ["self", "namespace"]) fun _ _ _ _ _ _ us hl => match us, hl with | [_, _], _ => rfl
  have bME := FME.binds (ps := ["self"]) fun _ _ _ _ _ _ us hl => match us, hl with | [_], _ => rfl
  have bML := FML.binds (ps := ["self"]) fun _ _ _ _ _ _ us hl => match us, hl with | [_], _ => rfl
  have bMS := FMS.binds (ps := ["self"]) fun _ _ _ _ _ _ us hl => match us, hl with | [_], _ => rfl
  have bMC := FMC.binds (ps := ["self", "command"]) fun _ _ _ _ _ _ us hl => match us, hl with | [_, _], _ => rfl
  have bMF := FMF.binds (ps := ["self", "command"]) fun _ _ _ _ _ _ us hl => match us, hl with | [_, _], _ => rfl
  have bMG := FMG.binds (ps := ["self", "letter"]) fun _ _ _ _ _ _ us hl => match us, hl with | [_, _], _ => rfl
  have bMW := FMW.binds (ps := ["self", "letter"]) fun _ _ _ _ _ _ us hl => match us, hl with | [_, _], _ => rfl
  have bMR := FMR.binds (ps := ["self", "state"]) fun _ _ _ _ _ _ us hl => match us, hl with | [_, _], _ => rfl
  have bMO := FMO.binds (ps := ["self", "told"]) fun _ _ _ _ _ _ us hl => match us, hl with | [_, _], _ => rfl
  have bMN := FMN.binds (ps := ["self", "answer"]) fun _ _ _ _ _ _ us hl => match us, hl with | [_, _], _ => rfl
  have bN := FN.binds (ps := ["tape", "many"]) fun _ _ _ _ _ _ us hl => match us, hl with | [_, _], _ => rfl
  have bO := FO.binds (ps := ["state", "session", "counter", "command", "answer"]) fun _ _ _ _ _ _ us hl => match us, hl with | [_, _, _, _, _], _ => rfl
  have bK := FK.binds (ps := ["state", "told"]) fun _ _ _ _ _ _ us hl => match us, hl with | [_, _], _ => rfl
  have bB := FB.binds (ps := ["tape", "state"]) fun _ _ _ _ _ _ us hl => match us, hl with | [_, _], _ => rfl
  have bE := FE.binds (ps := ["tape", "state"]) fun _ _ _ _ _ _ us hl => match us, hl with | [_, _], _ => rfl
  have bD := FD.binds (ps := ["state", "letter"]) fun _ _ _ _ _ _ us hl => match us, hl with | [_, _], _ => rfl
  refine ⟨PySem.W.fnOf "law" "law" (defArgs sLaw) (defBody sLaw) (defScope sLaw) .none kVL dcL pmL anL cdL ctL, fun s v => .of_eq rfl, fun base _ _ => ?_⟩
  have mMI : Meth K C "__init__" fMI := ⟨aMI, iMI, kMI⟩
  have mMB : Meth K C "begin" fMB := ⟨aMB, iMB, kMB⟩
  have mMA : Meth K C "again" fMA := ⟨aMA, iMA, kMA⟩
  have mMT : Meth K C "take" fMT := ⟨aMT, iMT, kMT⟩
  have mMK : Meth K C "key" fMK := ⟨aMK, iMK, kMK⟩
  have mME : Meth K C "ended" fME := ⟨aME, iME, kME⟩
  have mML : Meth K C "lost" fML := ⟨aML, iML, kML⟩
  have mMS : Meth K C "_begin_session" fMS := ⟨aMS, iMS, kMS⟩
  have mMC : Meth K C "_begin_command" fMC := ⟨aMC, iMC, kMC⟩
  have mMF : Meth K C "_key_for" fMF := ⟨aMF, iMF, kMF⟩
  have mMG : Meth K C "_take_connecting" fMG := ⟨aMG, iMG, kMG⟩
  have mMW : Meth K C "_take_waiting" fMW := ⟨aMW, iMW, kMW⟩
  have mMR : Meth K C "_rest" fMR := ⟨aMR, iMR, kMR⟩
  have mMO : Meth K C "_compare" fMO := ⟨aMO, iMO, kMO⟩
  have mMN : Meth K C "_end" fMN := ⟨aMN, iMN, kMN⟩
  have dMS := Mth.mk (ok_bs (P := l.prog) (wd := w) (base := base) FMS Tx) bMS mMS
  have dMR := Mth.mk (ok_rest (P := l.prog) (wd := w) (base := base) FMR Tx) bMR mMR
  have dMK := Mth.mk (ok_key (P := l.prog) (wd := w) (base := base) FMK Tx) bMK mMK
  have dMF := Mth.mk (ok_kf FMF Tx dMK) bMF mMF
  have dMC := Mth.mk (ok_bc FMC Tx dMF) bMC mMC
  have dMB := Mth.mk (ok_begin FMB Tx dMS dMC) bMB mMB
  have dMA := Mth.mk (ok_again (P := l.prog) (wd := w) (base := base) FMA Tx) bMA mMA
  have dME := Mth.mk (ok_ended (P := l.prog) (wd := w) (base := base) FME Tx B) bME mME
  have dML := Mth.mk (ok_lost (P := l.prog) (wd := w) (base := base) FML Tx B) bML mML
  have dMN := Mth.mk (ok_end (P := l.prog) (wd := w) (base := base) FMN Tx) bMN mMN
  have dMO := Mth.mk (ok_comp FMO Tx B dMN) bMO mMO
  have dMG := Mth.mk (ok_tc FMG Tx dMO dMR dMS) bMG mMG
  have dMW := Mth.mk (ok_tw FMW Tx dMN dMR) bMW mMW
  have dMT := Mth.mk (ok_take FMT Tx dMG dMW) bMT mMT
  have dN := Def.mk (ok_next (P := l.prog) (wd := w) (base := base) FN B) bN kN (PySem.W.mg_of X G aN)
  have dO := Def.mk (ok_note (P := l.prog) (wd := w) (mg := mg) (base := base) FO) bO kO (PySem.W.mg_of X G aO)
  have dK := Def.mk (ok_connd FK B dO) bK kK (PySem.W.mg_of X G aK)
  have dB := Def.mk (ok_lbegin FB dN) bB kB (PySem.W.mg_of X G aB)
  have dE := Def.mk (ok_letter FE B dN) bE kE (PySem.W.mg_of X G aE)
  have dD := Def.mk (ok_due FD dO dK) bD kD (PySem.W.mg_of X G aD)
  exact ok_law FL Tx B ⟨mk, aMI, iMI, kc⟩ (ok_init (P := l.prog) (wd := w) (base := base) FMI Tx) bMI dN dB dE dD dMB dMT dMA dME dML dMK
/-- the law row's walk: at most 63 items -/
theorem walk_law {l : PySem.W.OpenLaw} {q : Program} {loose : List Str} {XP : (Str → Option Value) → Heap → Prop} {YP : World → Heap → Prop} {d : DefRec} {K : Params → PySem.W.Frag} (hn : l.most = some 63) (hdf : d.params.defaults = [])
    (hY : ∀ (w : World) (h : Heap), YP w h → (K w.params).In h)
    (F : ∀ (w : World) (mg : Str → Option Value) (fa : Addr) (h : Heap), (K w.params).In h → h.Ns mainGlobals mg → mg d.name = some (.ref fa) →
      ∃ fd : FuncData, (∀ (s : Shared) (u : Value), BindsTo s fd ⟨[u], []⟩ [("script", u)]) ∧ ∀ base : Heap, (K w.params).In base → base.Ns mainGlobals mg → FnOk l.prog w (K w.params) mg base CX0 6 fa fd ["script"] (spLaw (K w.params))) :
    PySem.W.WalkO q loose XP YP l.row.toRowW d [] (fun f vs => PySem.call f vs) :=
  L2.walk_of (n := 63) (k := 6) (x := "script") (CX := fun _ => CX0) (sp := fun w => spLaw (K w.params)) hn (by decide) hdf ⟨rfl, by decide, by decide⟩ hY F (fun _ _ a ns hl _ hS => ⟨a, ns, rfl, hS, hl, fun _ => rfl⟩) fun _ _ _ _ _ z => z
end Sg

set_option Elab.async false
set_option linter.all false
set_option maxRecDepth 100000
set_option maxHeartbeats 8000000
open PySem PySem.W PyProof.Rows
set_option maxRecDepth 100000 in
set_option maxHeartbeats 0 in
theorem PySem.Challenge.cw_spindlegate_k56_hosts_know_what_became_o_holds : PySem.Challenge.rw_spindlegate_k56_hosts_know_what_became_o.Holds := by
  w_on; o_law; k_head; (case hw => w_witness2)
  k_fill
  refine Sg.walk_law (l := PySem.Challenge.rw_spindlegate_k56_hosts_know_what_became_o) rfl rfl (fun w h Y => PySem.W.kIn_of Y) ?F
  case F =>
    intro w mg fa h KX G hmg
    refine' Sg.all_mk KX G hmg ?aC ?pg ?hd ?po ?sa ?mk ?kc ?n1 ?n2 ?n3 ?n4 ?n5 ?n6 ?n7 ?n8 ?n9 ?n10 ?n11 ?aMI ?iMI ?lMI ?cMI ?kMI ?aMB ?iMB ?lMB ?cMB ?kMB ?aMA ?iMA ?lMA ?cMA ?kMA ?aMT ?iMT ?lMT ?cMT ?kMT ?aMK ?iMK ?lMK ?cMK ?kMK ?aME ?iME ?lME ?cME ?kME ?aML ?iML ?lML ?cML ?kML ?aMS ?iMS ?lMS ?cMS ?kMS ?aMC ?iMC ?lMC ?cMC ?kMC ?aMF ?iMF ?lMF ?cMF ?kMF ?aMG ?iMG ?lMG ?cMG ?kMG ?aMW ?iMW ?lMW ?cMW ?kMW ?aMR ?iMR ?lMR ?cMR ?kMR ?aMO ?iMO ?lMO ?cMO ?kMO ?aMN ?iMN ?lMN ?cMN ?kMN ?aN ?lN ?cN ?kN ?aO ?lO ?cO ?kO ?aK ?lK ?cK ?kK ?aB ?lB ?cB ?kB ?aE ?lE ?cE ?kE ?aD ?lD ?cD ?kD ?aL ?lL ?cL ?kL ?z_len ?z_abs ?z_int ?z_list ?z_range ?z_max ?z_isinstance ?z_bool
    (case aC => k_is)
    (case pg => k_is)
    (case hd => k_is)
    (case po => k_is)
    (case sa => k_is)
    (case mk => k_is)
    (case kc => k_is)
    (case n1 => k_is)
    (case n2 => k_is)
    (case n3 => k_is)
    (case n4 => k_is)
    (case n5 => k_is)
    (case n6 => k_is)
    (case n7 => k_is)
    (case n8 => k_is)
    (case n9 => k_is)
    (case n10 => k_is)
    (case n11 => k_is)
    (case aMI => k_is)
    (case iMI => k_is)
    (case lMI => k_is)
    (case cMI => k_is)
    (case kMI => k_is)
    (case aMB => k_is)
    (case iMB => k_is)
    (case lMB => k_is)
    (case cMB => k_is)
    (case kMB => k_is)
    (case aMA => k_is)
    (case iMA => k_is)
    (case lMA => k_is)
    (case cMA => k_is)
    (case kMA => k_is)
    (case aMT => k_is)
    (case iMT => k_is)
    (case lMT => k_is)
    (case cMT => k_is)
    (case kMT => k_is)
    (case aMK => k_is)
    (case iMK => k_is)
    (case lMK => k_is)
    (case cMK => k_is)
    (case kMK => k_is)
    (case aME => k_is)
    (case iME => k_is)
    (case lME => k_is)
    (case cME => k_is)
    (case kME => k_is)
    (case aML => k_is)
    (case iML => k_is)
    (case lML => k_is)
    (case cML => k_is)
    (case kML => k_is)
    (case aMS => k_is)
    (case iMS => k_is)
    (case lMS => k_is)
    (case cMS => k_is)
    (case kMS => k_is)
    (case aMC => k_is)
    (case iMC => k_is)
    (case lMC => k_is)
    (case cMC => k_is)
    (case kMC => k_is)
    (case aMF => k_is)
    (case iMF => k_is)
    (case lMF => k_is)
    (case cMF => k_is)
    (case kMF => k_is)
    (case aMG => k_is)
    (case iMG => k_is)
    (case lMG => k_is)
    (case cMG => k_is)
    (case kMG => k_is)
    (case aMW => k_is)
    (case iMW => k_is)
    (case lMW => k_is)
    (case cMW => k_is)
    (case kMW => k_is)
    (case aMR => k_is)
    (case iMR => k_is)
    (case lMR => k_is)
    (case cMR => k_is)
    (case kMR => k_is)
    (case aMO => k_is)
    (case iMO => k_is)
    (case lMO => k_is)
    (case cMO => k_is)
    (case kMO => k_is)
    (case aMN => k_is)
    (case iMN => k_is)
    (case lMN => k_is)
    (case cMN => k_is)
    (case kMN => k_is)
    (case aN => k_is)
    (case lN => k_is)
    (case cN => k_is)
    (case kN => k_is)
    (case aO => k_is)
    (case lO => k_is)
    (case cO => k_is)
    (case kO => k_is)
    (case aK => k_is)
    (case lK => k_is)
    (case cK => k_is)
    (case kK => k_is)
    (case aB => k_is)
    (case lB => k_is)
    (case cB => k_is)
    (case kB => k_is)
    (case aE => k_is)
    (case lE => k_is)
    (case cE => k_is)
    (case kE => k_is)
    (case aD => k_is)
    (case lD => k_is)
    (case cD => k_is)
    (case kD => k_is)
    (case aL => k_is)
    (case lL => k_is)
    (case cL => k_is)
    (case kL => k_is)
    (case z_len => k_is)
    (case z_abs => k_is)
    (case z_int => k_is)
    (case z_list => k_is)
    (case z_range => k_is)
    (case z_max => k_is)
    (case z_isinstance => k_is)
    (case z_bool => k_is)

