import PyProof.Rows.All
import Wide.All
import OpenK.AllK
import Wide.FinOn
import HandS.Base
import HandS.Call
import HandS.List
import HandS.Comp
import HandS.Ends
import HandS.Dict
import HandS.Iter
import HandS.Text
import HandS.Words
import HandS.WordsList
import HandS.Steps
import HandS.Evl
import HandS.Exc
import HandS.TryOnly
import HandS.ExcOwn
import HandS.WordsExc
import HandS.IsInst
import HandS.ExcIs
import HandS.Deep
import HandS.More
import HandS.WrittenGet
import KE.KIndexOf
import HandS.Zip
import HandS.Star
import PyProof.RulesMatch
import PyProof.RulesMatchSeq
import PyProof.Rows.MatchSeqLen
import PyProof.Rows.TupIter
import KE.KDictPairs
import PyProof.P3In
import HandS.DictComp
import HandS.SortInts
import HandS.SetKeys
import HandS.Walk
import KE.SortData
import PyProof.DictMoreH
import HandS.SortRule
import KE.DataFind
import HandS.SetFor
import HandS.Conv
import HandS.AnyAll
import HandS.WordsDict
import PySem.Challenge.RW_spindlegate_k13_whole_dead_records_can_b
set_option Elab.async false
set_option linter.all false
set_option maxRecDepth 100000
set_option maxHeartbeats 4000000
/-! General lemmas: readings of expressions, small heaps, lists. -/
namespace Sg
open PySem PySem.Spec PyProof.Rows L2
section
variable {σ : L2.St} {H : Hp} {ta tb te : TE} {i j : Int} {K : PySem.W.Frag} {x y z : V}
theorem v0 {g : Int → Int → V} (ha : Val ta σ H (.int i)) (hb : Val tb σ H (.int j)) : Val (tOp (rI0 g) ta tb) σ H (g i j) := val_op ha hb fun _ q => ⟨i, j, rfl, rfl, q⟩
theorem vc {C : Int → Int → Prop} {g : Int → Int → V} (ha : Val ta σ H (.int i)) (hb : Val tb σ H (.int j)) (hc : C i j) : Val (tOp (rI C g) ta tb) σ H (g i j) := val_op ha hb fun _ q => ⟨i, j, rfl, rfl, hc, q⟩
theorem vEq (ha : Val ta σ H x) (hb : Val tb σ H y) (hs : scal x y = true) : Val (tOp rEq ta tb) σ H (.bl (decide (x = y))) := val_op ha hb fun _ q => ⟨hs, q⟩
theorem vNe (ha : Val ta σ H x) (hb : Val tb σ H y) (hs : scal x y = true) : Val (tOp rNe ta tb) σ H (.bl (!decide (x = y))) := val_op ha hb fun _ q => ⟨hs, q⟩
theorem vIx {p : Addr} {xs : List V} {n : Nat} (ha : Val ta σ H (.ref p)) (hb : Val tb σ H (.int (n : Int))) (hp : SqL K H p xs) (hn : xs[n]? = some z) : Val (tOp (rIxL K) ta tb) σ H z :=
  val_op ha hb fun _ q => ⟨p, xs, _, z, rfl, rfl, hp, atI_nat hn, q⟩
theorem vIs {v w : V} (h : Val te σ H v) (e : v = w) : Val te σ H w := e ▸ h
/-- a built-in's call of one argument -/
theorem vCB1 {r : List V → Hp → VK → Prop} (ha : Val ta σ H x) (hr : ∀ Q : VK, Q z H → r [x] H Q) : Val (tCB r (tCons ta tNil)) σ H z := fun Q q => ha _ (hr Q q)
theorem vCB2 {r : List V → Hp → VK → Prop} (ha : Val ta σ H x) (hb : Val tb σ H y) (hr : ∀ Q : VK, Q z H → r [x, y] H Q) : Val (tCB r (tCons ta (tCons tb tNil))) σ H z := fun Q q => ha _ (hb _ (hr Q q))
theorem aTest {b : Bool} (h : Val te σ H (.bl b)) : Ans (tTest te) σ H b := fun Q q => h _ ⟨b, rfl, q⟩
end
theorem map_get {α β : Type} {f : α → β} {l : List α} {i : Nat} {y : β} (h : (l.map f)[i]? = some y) : ∃ z, l[i]? = some z ∧ y = f z := by
  rw [List.getElem?_map] at h
  cases e : l[i]? with
  | none =>
    rw [e] at h
    cases h
  | some z =>
    rw [e] at h
    exact ⟨z, rfl, (Option.some.inj h).symm⟩
theorem get_map {α β : Type} {f : α → β} {l : List α} {i : Nat} {z : α} (h : l[i]? = some z) : (l.map f)[i]? = some (f z) := by rw [List.getElem?_map, h]; rfl
theorem upd_two {H : Hp} {a : Addr} {o u : HO} : upd (upd H a o) a u = upd H a u := upd_upd
theorem same_new {H : Hp} {p : Addr} {o : HO} (h : H p = Option.none) : Same H (upd H p o) := fun b u e => by
  rw [upd_ne (ne_of_none e h)]
  exact e
end Sg

set_option Elab.async false
set_option linter.all false
set_option maxRecDepth 100000
set_option maxHeartbeats 4000000
namespace Sg
open PySem PySem.Spec PyProof.Rows L2
/-! ### rules of our own -/
section
variable {X : Cx}
/-- C(), an own exception without an __init__ of its own -/
theorem pmk_own0 {C : Addr} {bmB : List Value} {B newId initId : String} {x : Str} {p pos : Pos} (F : ExcBaseFacts B newId initId bmB) (q : PySem.W.excIn X.K C bmB newId = true) (gC : X.mg x = some (.ref C))
    (kC : PySem.W.keepIn X.K (.ref C) = true) (r : Raises X (.ref C)) (hg : Gl X x) (hdb : (x == ("__debug__" : Str)) = false := by decide) :
    PMk X (.Call (.Name x p) [] [] pos) (fun _ H Q => Q (.ref C) none H) := by
  intro pins s σ H Q I h
  refine wpAny_Call_Name_kw (ld_glob I hg gC ?_ hdb)
  refine PySem.W.callWith_K0 I.kIn kC ?_
  obtain ⟨bm, N, nm, qn, bs, hdct, sn, sub, ab, col, dd, k0, k1, k2, k3, k5, mN, hC, hN, hni, T⟩ := exc_obj I.kIn q
  exact wpAny_call_exc_subT F T hC hN hni (fun h' e hm => mk_of I hm r h (I.hok.gone hm.new)) (Nat.zero_le _)
/-- o[i] of a list, by values, a place in bounds from the left -/
def rGetL (K : PySem.W.Frag) : V → V → Hp → VK → Prop := fun o i H Q => ∃ p xs n v, o = .ref p ∧ i = .int ((n : Nat) : Int) ∧ SqL K H p xs ∧ xs[n]? = some v ∧ Q v H
theorem get_list : PGet X (rGetL X.K) := by
  intro pins s σ H o i ov iv Q I ro ri h
  obtain ⟨p, xs, n, v, rfl, rfl, hq, he, q⟩ := h
  cases ro
  obtain ⟨t, rfl⟩ := ri
  obtain ⟨its, r, pl, hz⟩ := I.list hq
  obtain ⟨w, ew, rw'⟩ := r.get he
  have hl := r.length
  have hn := line63
  have hb := (List.getElem?_eq_some_iff.mp he).1
  exact wpAny_getItem_list pl.isList (by omega) (by omega) (by simpa using ew) ⟨v, H, I, rw', q⟩
/-- l.count(y): how many are equal, data of any depth -/
def rCountD (K : PySem.W.Frag) : V → List V → Hp → VK → Prop := fun x xs H Q => ∃ (a : Addr) (y : V) (d : PyData) (ds : List PyData), x = V.ref a ∧ xs = [y] ∧ Dp K H (V.ref a) (.list ds) ∧ Dp K H y d ∧
  SeqAt.shaped (.list ds) = true ∧ SeqAt.shaped d = true ∧ Q (.int (ds.countP (fun z => PyData.eqv z d) : Nat)) H
theorem mt_countD (hu : X.A.units + 65 < cLine) : MtR X "list.count" (rCountD X.K) := by
  intro pins s σ H x xs v us Q I rx rxs h
  obtain ⟨a, y, d, ds, rfl, rfl, hl, hy, sl, sd, q⟩ := h
  cases rx
  cases rxs with
  | cons ry rt =>
    rename_i uy ut
    cases rt
    obtain ⟨bs, r1⟩ := Dp.reads I d y uy hy ry
    have hxs : PyData.canLayAll0 ds = true := SeqAt.canLay_of_shaped sl
    have hroom : X.A.units + 1 + min (PyData.depthAll ds) d.depth < cLine := room_in_shaped sd hu
    cases hl with
    | lst hs ha =>
      obtain ⟨its, rv, ⟨⟨cls, dd, data, sls⟩, n, ho, hc, hdn, hdt⟩, hlen⟩ := I.list hs
      simp only at hc hdt
      subst hc hdt
      obtain ⟨as, h4⟩ := Dp.readsAll I ds _ its ha rv
      have hmap : its.map (SeqAt.readOf s.heap) = ds := SeqAt.readsAll_map ds its as hxs h4
      refine call_meets PySem.F.slot_list_count ⟨_, ho, rfl⟩ PySem.F.entry_list_count (PySem.F.args_list_count_2 _ _)
        (SeqAt.list_countAt a its.toArray n dd sls uy (fun u => PyData.eqv (SeqAt.readOf s.heap u) d)) ⟨ho, SeqAt.items_eqAt (vs := its.toArray) (show ReadsAll s.heap its.toArray.toList ds as from h4) r1 hxs (SeqAt.canLay_of_shaped sd) hroom, ?_⟩
      have ec : its.toArray.toList.countP (fun u => PyData.eqv (SeqAt.readOf s.heap u) d) = ds.countP (fun z => PyData.eqv z d) := by
        rw [← hmap, List.countP_map]
        rfl
      refine ⟨.int (ds.countP (fun z => PyData.eqv z d) : Nat), H, I.tok _, ⟨s.toks, ?_⟩, q⟩
      show Value.int ((its.toArray.toList.countP (fun u => PyData.eqv (SeqAt.readOf s.heap u) d) : Nat) : Int) s.toks = _
      rw [ec]
/-- isinstance(e, c), e the exception that the suite holds, whatever its class is -/
def rIsX (K : PySem.W.Frag) (a : Addr) (cls : Value) (d : Option Addr) : List V → Hp → VK → Prop := fun xs H Q => ∃ (D : Addr) (c : V) (cv : Value) (b : Bool), cls = .ref D ∧ d = none ∧ ExcC K D ∧ xs = [.ref a, c] ∧ (∀ u, RelV c u → u = cv) ∧ PySem.W.kitOne K (.ref D) cv = some b ∧ Q (.bl b) H
theorem call_isX {a : Addr} {oe : Obj} {cls : Value} {d : Option Addr} {pn : List (Addr × Obj)} (hz : Zc cls d oe) (hf : ∃ vs, oe.data = .fields vs) : CallR (X.suite a ((a, oe) :: pn)) (.builtin "isinstance") (rIsX X.K a cls d) := by
  intro pins s σ H xs us Q I r h
  obtain ⟨D, c, cv, b, rfl, rfl, C, rfl, hcv, e, q⟩ := h
  exact call_isE C hz hf pins s σ H _ us Q I r ⟨c, cv, b, rfl, hcv, e, q⟩
end
/-- an exception of a subclass is what the clause names -/
theorem exm_sub {K : PySem.W.Frag} {S T : Addr} (h1 : PySem.W.subIn K (.ref T) (.type "BaseException") = some true) (h2 : PySem.W.isClsIn K T = true) (h3 : PySem.W.typeIn K (.ref T) = some (.type "type")) (h4 : PySem.W.subIn K (.ref S) (.ref T) = some true) :
    PySem.W.exmOne K (.ref S) (.ref T) = some true := by
  have e1 : (PySem.W.subIn K (.ref T) (.type "BaseException") == some true) = true := by rw [h1] <;> rfl
  have e2 : ((PySem.W.clsIn K T).isSome && PySem.W.typeIn K (.ref T) == some (.type "type")) = true := by
    have h2' : (PySem.W.clsIn K T).isSome = true := h2
    rw [h2', h3] <;> rfl
  show (if (PySem.W.subIn K (.ref T) (.type "BaseException") == some true) = true then (if ((PySem.W.clsIn K T).isSome && PySem.W.typeIn K (.ref T) == some (.type "type")) = true then PySem.W.subIn K (.ref S) (.ref T) else none) else none) = some true
  rw [if_pos e1, if_pos e2]
  exact h4
end Sg

set_option Elab.async false
set_option linter.all false
set_option maxRecDepth 100000
set_option maxHeartbeats 4000000
namespace Sg
open PySem PySem.Spec PyProof.Rows L2
def top (i : Nat) : Stmt := PySem.Challenge.pw_spindlegate_k13_whole_dead_records_can_b.main.body.getD i (.Pass ⟨0, 0, 0, 0⟩)
abbrev cR (i : Nat) : Stmt := inClass (top 14) i
abbrev sWhole : Stmt := top 1
abbrev sFieldsOf : Stmt := top 7
abbrev sAnswerOf : Stmt := top 8
abbrev sEffects : Stmt := top 9
abbrev sOnce : Stmt := top 10
abbrev sEffKind : Stmt := top 11
abbrev sValueAt : Stmt := top 15
abbrev sSnapsOf : Stmt := top 16
abbrev sLiveRecs : Stmt := top 17
abbrev sNumberOf : Stmt := top 18
abbrev sLiveOrd : Stmt := top 19
abbrev sViews : Stmt := top 20
abbrev sNext : Stmt := top 22
abbrev sLFields : Stmt := top 23
abbrev sLRecords : Stmt := top 24
abbrev sLEffects : Stmt := top 25
abbrev sLValue : Stmt := top 26
abbrev sLTopics : Stmt := top 27
abbrev sLViews : Stmt := top 28
abbrev sLSeen : Stmt := top 29
abbrev sLDue : Stmt := top 30
abbrev sLSnaps : Stmt := top 31
abbrev sLaw : Stmt := top 32
structure Def (P : Program) (wd : World) (K : PySem.W.Frag) (mg : Str → Option Value) (base : Heap) (CX : CXT) (x : Str) (k : Nat) (ps : List Str) (sp : Sp) (f : Addr) (fd : FuncData) : Prop where
  ok : FnOk P wd K mg base CX k f fd ps sp
  bd : Binds K fd ps []
  kp : PySem.W.keepIn K (.ref f) = true
  mg : mg x = some (.ref f)
/-! ### what is kept -/
/-- every tuple is kept -/
structure TK (H H' : Hp) : Prop where
  t : ∀ a xs, H a = some (.tup xs) → H' a = some (.tup xs)
  f : ∀ a o xs, H a = some (.frz o (.tup xs)) → H' a = some (.frz o (.tup xs))
theorem TK.refl (H : Hp) : TK H H := ⟨fun _ _ h => h, fun _ _ _ h => h⟩
theorem TK.trans {H H1 H2 : Hp} (a : TK H H1) (b : TK H1 H2) : TK H H2 := ⟨fun x y h => b.t _ _ (a.t _ _ h), fun x y z h => b.f _ _ _ (a.f _ _ _ h)⟩
theorem TK.of {H H' : Hp} (s : Same H H') : TK H H' := ⟨fun _ _ h => s _ _ h, fun _ _ _ h => s _ _ h⟩
def Off (xs : List Addr) (H H' : Hp) : Prop := ∀ b o, H b = some o → b ∉ xs → H' b = some o
theorem Off.refl {xs : List Addr} (H : Hp) : Off xs H H := fun _ _ h _ => h
theorem Off.trans {xs : List Addr} {H H1 H2 : Hp} (a : Off xs H H1) (b : Off xs H1 H2) : Off xs H H2 := fun x o h n => b _ _ (a _ _ h n) n
theorem Off.of {xs : List Addr} {H H' : Hp} (s : Same H H') : Off xs H H' := fun _ _ h _ => s _ _ h
theorem Off.upd {xs : List Addr} {H : Hp} {p : Addr} {o : HO} (h : p ∈ xs) : Off xs H (upd H p o) := fun b u e n => by
  rw [upd_ne (fun (z : b = p) => n (by rw [z]; exact h))]; exact e
/-- lists and dicts alone were changed -/
theorem TK.off {xs : List Addr} {H H' : Hp} (o : Off xs H H') (h : ∀ x ∈ xs, (∃ l, H x = some (.lst l)) ∨ ∃ d, H x = some (.dK d)) : TK H H' := by
  refine ⟨fun a l e => o _ _ e fun m => ?_, fun a b l e => o _ _ e fun m => ?_⟩
  · rcases h a m with ⟨z, q⟩ | ⟨z, q⟩ <;> (rw [e] at q; cases q)
  · rcases h a m with ⟨z, q⟩ | ⟨z, q⟩ <;> (rw [e] at q; cases q)
section
variable {K : PySem.W.Frag} {H H' : Hp}
theorem sqT_tk {a : Addr} {xs : List V} (h : SqT K H a xs) (s : TK H H') : SqT K H' a xs := by
  rcases h with (h | ⟨o, h⟩) | h
  · exact .inl (.inl (s.t _ _ h))
  · exact .inl (.inr ⟨o, s.f _ _ _ h⟩)
  · exact .inr h
end
def strIn (s : Str) (ns : List Str) : Bool := ns.any fun y => decide (y = s)
theorem inV_str {s : Str} : ∀ {ns : List Str}, inV (.str s) (ns.map V.str) = strIn s ns
  | [] => rfl
  | n :: ns => by
    show (eqV (.str n) (.str s) || inV (.str s) (ns.map V.str)) = (decide (n = s) || strIn s ns)
    rw [inV_str (ns := ns)]
    rfl
theorem flat_strs : ∀ {ns : List Str}, (ns.map V.str).all flatV = true
  | [] => rfl
  | n :: ns => by rw [List.map_cons, List.all_cons, flat_strs (ns := ns)]; rfl
def strInD (ns : List Str) : PyData → Bool
  | .str s => strIn s ns
  | _ => false
theorem str_eqT {x : Str} : decide (V.str x = V.str x) = true := decide_eq_true rfl
theorem str_eqF {x y : Str} (h : ¬ x = y) : decide (V.str x = V.str y) = false := decide_eq_false (fun z => h (by cases z; rfl))
theorem nil_ {σ : L2.St} {H : Hp} {Q : List V → Hp → Prop} (h : Q [] H) : tNil σ H Q := h
theorem tc_ {σ : L2.St} {H : Hp} {v : V} {Q : List V → Hp → Prop} (h : Q [v] H) : tCons (tC v) tNil σ H Q := h
theorem yesIte {σ : L2.St} {H : Hp} {A B : Hp → Prop} (h : A H) : tYes σ H (fun b H3 => if b = true then A H3 else B H3) := by
  show (if true = true then A H else B H)
  rw [if_pos rfl]; exact h
/-- a method, ready to be called -/
structure Mth (P : Program) (wd : World) (K : PySem.W.Frag) (mg : Str → Option Value) (base : Heap) (CX : CXT) (C : Addr) (x : Str) (k : Nat) (ps : List Str) (sp : Sp) (f : Addr) (fd : FuncData) : Prop where
  ok : FnOk P wd K mg base CX k f fd ps sp
  bd : Binds K fd ps []
  me : Meth K C x f
theorem lk_here {k : Str} {v : V} {r : List (Str × V)} : List.lookup k ((k, v) :: r) = some v := by
  have e : (k == k) = true := beq_self_eq_true k
  simp only [List.lookup, e]
theorem lk_past {k g : Str} {v : V} {r : List (Str × V)} (h : (k == g) = false) : List.lookup k ((g, v) :: r) = List.lookup k r := by
  simp only [List.lookup, h]
theorem put_here {f : Str} {v x : V} {r : List (Str × V)} : putF f v ((f, x) :: r) = (f, v) :: r := if_pos rfl
theorem put_past {f g : Str} {v x : V} {r : List (Str × V)} (h : ¬ g = f) : putF f v ((g, x) :: r) = (g, x) :: putF f v r := if_neg h
end Sg

set_option Elab.async false
set_option linter.all false
set_option maxRecDepth 100000
set_option maxHeartbeats 4000000
namespace Sg
open PySem PySem.Spec PyProof.Rows L2
/-! ### data -/
def intB : PyData → Bool
  | .int _ => true
  | .bool _ => true
  | _ => false
def boolB : PyData → Bool
  | .bool _ => true
  | _ => false
def strB : PyData → Bool
  | .str _ => true
  | _ => false
def tupB : PyData → Bool
  | .tuple _ => true
  | _ => false
def lstB : PyData → Bool
  | .list _ => true
  | _ => false
def wholeD : PyData → Bool
  | .int _ => true
  | _ => false
def atLeastD (lo : Int) : PyData → Bool
  | .int i => decide (lo ≤ i)
  | _ => false
def betwD (lo hi : Int) : PyData → Bool
  | .int i => decide (lo ≤ i) && decide (i ≤ hi)
  | _ => false
/-- what a value's type is, by its data -/
theorem dp_ty {K : PySem.W.Frag} {H : Hp} {x : V} {d : PyData} (h : Dp K H x d) : ∃ t, TyX K H x t ∧ PySem.W.kitOne K t (.type "int") = some (intB d) ∧ PySem.W.kitOne K t (.type "bool") = some (boolB d) ∧ PySem.W.kitOne K t (.type "str") = some (strB d) ∧
    PySem.W.kitOne K t (.type "tuple") = some (tupB d) ∧ PySem.W.kitOne K t (.type "list") = some (lstB d) := by
  cases h with
  | non => exact ⟨_, .base .non, (show PySem.W.kitOne K (.type "NoneType") (.type "int") = some false from kit_ty (by decide +kernel)), (show PySem.W.kitOne K (.type "NoneType") (.type "bool") = some false from kit_ty (by decide +kernel)), (show PySem.W.kitOne K (.type "NoneType") (.type "str") = some false from kit_ty (by decide +kernel)), (show PySem.W.kitOne K (.type "NoneType") (.type "tuple") = some false from kit_ty (by decide +kernel)), (show PySem.W.kitOne K (.type "NoneType") (.type "list") = some false from kit_ty (by decide +kernel))⟩
  | bl b => exact ⟨_, .base (.bl b), (show PySem.W.kitOne K (.type "bool") (.type "int") = some true from kit_ty (by decide +kernel)), (show PySem.W.kitOne K (.type "bool") (.type "bool") = some true from kit_ty (by decide +kernel)), (show PySem.W.kitOne K (.type "bool") (.type "str") = some false from kit_ty (by decide +kernel)), (show PySem.W.kitOne K (.type "bool") (.type "tuple") = some false from kit_ty (by decide +kernel)), (show PySem.W.kitOne K (.type "bool") (.type "list") = some false from kit_ty (by decide +kernel))⟩
  | int i => exact ⟨_, .base (.int i), (show PySem.W.kitOne K (.type "int") (.type "int") = some true from kit_ty (by decide +kernel)), (show PySem.W.kitOne K (.type "int") (.type "bool") = some false from kit_ty (by decide +kernel)), (show PySem.W.kitOne K (.type "int") (.type "str") = some false from kit_ty (by decide +kernel)), (show PySem.W.kitOne K (.type "int") (.type "tuple") = some false from kit_ty (by decide +kernel)), (show PySem.W.kitOne K (.type "int") (.type "list") = some false from kit_ty (by decide +kernel))⟩
  | str x => exact ⟨_, .base (.str x), (show PySem.W.kitOne K (.type "str") (.type "int") = some false from kit_ty (by decide +kernel)), (show PySem.W.kitOne K (.type "str") (.type "bool") = some false from kit_ty (by decide +kernel)), (show PySem.W.kitOne K (.type "str") (.type "str") = some true from kit_ty (by decide +kernel)), (show PySem.W.kitOne K (.type "str") (.type "tuple") = some false from kit_ty (by decide +kernel)), (show PySem.W.kitOne K (.type "str") (.type "list") = some false from kit_ty (by decide +kernel))⟩
  | lst hs _ =>
    refine ⟨.type "list", ?_, (show PySem.W.kitOne K (.type "list") (.type "int") = some false from kit_ty (by decide +kernel)), (show PySem.W.kitOne K (.type "list") (.type "bool") = some false from kit_ty (by decide +kernel)), (show PySem.W.kitOne K (.type "list") (.type "str") = some false from kit_ty (by decide +kernel)), (show PySem.W.kitOne K (.type "list") (.type "tuple") = some false from kit_ty (by decide +kernel)), (show PySem.W.kitOne K (.type "list") (.type "list") = some true from kit_ty (by decide +kernel))⟩
    rcases hs with (h | ⟨o, h⟩) | ⟨o, its, n, h1, h2, _⟩
    · exact .base (.lst h)
    · exact .base (.frz h)
    · exact .kList h1 h2
  | tup hs _ =>
    refine ⟨.type "tuple", ?_, (show PySem.W.kitOne K (.type "tuple") (.type "int") = some false from kit_ty (by decide +kernel)), (show PySem.W.kitOne K (.type "tuple") (.type "bool") = some false from kit_ty (by decide +kernel)), (show PySem.W.kitOne K (.type "tuple") (.type "str") = some false from kit_ty (by decide +kernel)), (show PySem.W.kitOne K (.type "tuple") (.type "tuple") = some true from kit_ty (by decide +kernel)), (show PySem.W.kitOne K (.type "tuple") (.type "list") = some false from kit_ty (by decide +kernel))⟩
    rcases hs with (h | ⟨o, h⟩) | ⟨o, its, n, h1, h2, _⟩
    · exact .base (.tup h)
    · exact .fTuple h
    · exact .kTuple h1 h2
theorem SqT_same {K : PySem.W.Frag} {H H' : Hp} {a : Addr} {xs : List V} (s : Same H H') (h : SqT K H a xs) : SqT K H' a xs := by
  rcases h with (h | ⟨o, h⟩) | h
  · exact .inl (.inl (s _ _ h))
  · exact .inl (.inr ⟨o, s _ _ h⟩)
  · exact .inr h
mutual
theorem dp_same {K : PySem.W.Frag} {H H' : Hp} (s : Same H H') : ∀ (d : PyData) (x : V), Dp K H x d → Dp K H' x d
  | .none, _, h => by cases h; exact .non
  | .bool _, _, h => by cases h; exact .bl _
  | .int _, _, h => by cases h; exact .int _
  | .str _, _, h => by cases h; exact .str _
  | .list ds, _, h => by
    cases h with
    | lst hs ha => exact .lst (s.seq hs) (dpAll_same s ds _ ha)
  | .tuple ds, _, h => by
    cases h with
    | tup hs ha => exact .tup (SqT_same s hs) (dpAll_same s ds _ ha)
  | .dict _, _, h => by cases h
theorem dpAll_same {K : PySem.W.Frag} {H H' : Hp} (s : Same H H') : ∀ (ds : List PyData) (xs : List V), DpAll K H xs ds → DpAll K H' xs ds
  | [], _, h => by cases h; exact .nil
  | d :: ds, _, h => by
    cases h with
    | cons a b => exact .cons (dp_same s d _ a) (dpAll_same s ds _ b)
end
theorem boot_isi : bootBuiltins "isinstance" = some (.builtin "isinstance") := by decide +kernel
end Sg

set_option Elab.async false
set_option linter.all false
set_option maxRecDepth 100000
set_option maxHeartbeats 4000000
namespace Sg
open PySem PySem.Spec PyProof.Rows L2
open HT
section
variable {prog : Program} {w : World} {A : Around} {E : Value → Shared → Prop} {s : Shared}
/-- t[lo:hi] that takes all of a tuple is the tuple itself -/
theorem tup_all {t sl : Addr} {items : Array Value} {vl vu : Value} {lo hi : Option Int} {Q : Value → Shared → Prop} (ht : IsTup s.heap t items) (hs : s.heap.IsSliceOf sl vl vu .none) (pl : IsPart vl lo) (pu : IsPart vu hi)
    (h1 : sIx items.size 0 lo = 0) (h2 : sIx items.size items.size hi = items.size) (h : Q (.ref t) s) : wpAny (model prog w) A (getItem (.ref t) (.ref sl)) Q E s := by
  obtain ⟨os, hos, hcs, hds⟩ := id hs
  have hTs : s.TypeIs (.ref sl) "slice" := ⟨os, hos, hcs⟩
  unfold getItem
  try with_reducible refine wpAny_holding ?_
  first | refine wpAny_bind (wpAny_pure ?_) | skip
  refine wpAny_bind (wpAny_sequenceKey ht.typeIs (by decide) ?_)
  refine wpAny_bind (wpAny_callSpecial?_slot (name := Str.ofString "__getitem__") ht.typeIs PyProof.Rows.slot_tuple_getitem
    (wpAny_call_entry PyProof.Rows.slot_tuple_getitem ht.typeIs entry_tuple_getitem ?_ (args_tuple_getitem _ _)))
  show wpAny _ _ (Builtin.Tuple.tupleItemsOf (.ref t) >>= _) _ _ s
  refine wpAny_bind (tupleItemsOf_ ht (wpAny_bind (wpAny_typeOf hTs ?_)))
  rw [if_pos (by decide)]
  refine wpAny_bind (sliceApplied_gen hs pl pu ?_)
  rw [h1, h2]
  show wpAny _ _ (if (((0 : Nat) : Int) == 0 && (1 : Int) == 1 && (items.size - 0) == items.size) = true then _ else _) _ _ s
  rw [if_pos (by simp)]
  show wpAny _ _ (Builtin.Tuple.tupleIsExact (.ref t) >>= _) _ _ s
  refine wpAny_bind (m := Builtin.Tuple.tupleIsExact _) ?_
  unfold Builtin.Tuple.tupleIsExact
  refine wpAny_bind (wpAny_typeOf ht.typeIs (wpAny_pure ?_))
  rw [if_pos (by decide)]
  exact wpAny_bind (wpAny_rule (wpAny_pure ⟨_, rfl, wpAny_pure h⟩))
end
section
variable {X : Cx}
/-- t[lo:hi], a part or all of a tuple -/
def rSlA (K : PySem.W.Frag) : V → Option Int → Option Int → Hp → VK → Prop := fun x lo hi H Q => ∃ a xs, x = .ref a ∧ SqT K H a xs ∧ ∀ p H', Same H H' → SqT K H' p (cutV xs lo hi) → Q (.ref p) H'
theorem sl_any : SlR X (rSlA X.K) := by
  intro pins s σ H x v vl vu lo hi sl Q I rx hs pl pu h
  obtain ⟨a, xs, rfl, hx, q⟩ := h
  by_cases hw : sIx xs.length 0 lo = 0 ∧ sIx xs.length xs.length hi = xs.length
  · cases rx
    obtain ⟨its, r, ht, hz⟩ := I.tuple hx
    have hlen : its.toArray.size = xs.length := by rw [List.size_toArray]; exact r.length.symm
    refine ⟨"tuple", _, PyProof.Rows.slot_tuple_getitem.lookup, ht.typeIs, ?_⟩
    refine tup_all ht hs pl pu (by rw [hlen]; exact hw.1) (by rw [hlen]; exact hw.2) ⟨.ref a, H, I, rfl, q a H (Same.refl H) ?_⟩
    have e : cutV xs lo hi = xs := by
      unfold cutV
      rw [hw.1, hw.2]
      simp
    rw [e]
    exact hx
  · exact sl_tup pins s σ H (.ref a) v vl vu lo hi sl Q I rx hs pl pu ⟨a, xs, rfl, hx, hw, fun p hp => q p _ (same_new hp) (SqT.of upd_same)⟩
/-- x is b, x is not b: b True or False -/
def rIsB (neg : Bool) : R2 := fun x y H Q => ∃ b c, y = .bl b ∧ x = .bl c ∧ Q (.bl (if neg then !decide (c = b) else decide (c = b))) H
theorem op_isB : OpR X (compareOp .Is) (rIsB false) := by
  intro pins s σ H x y v u Q I rx ry h
  obtain ⟨b, c, rfl, rfl, q⟩ := h
  cases rx
  cases ry
  have e : (Value.bool c == Value.bool b) = decide (c = b) := by cases b <;> cases c <;> rfl
  exact wpAny_is_plain rfl ⟨.bl (decide (c = b)), H, I, by rw [e]; rfl, q⟩
theorem op_isNotB : OpR X (compareOp .IsNot) (rIsB true) := by
  intro pins s σ H x y v u Q I rx ry h
  obtain ⟨b, c, rfl, rfl, q⟩ := h
  cases rx
  cases ry
  have e : (Value.bool c == Value.bool b) = decide (c = b) := by cases b <;> cases c <;> rfl
  show wpAny _ _ ((isSame (Value.bool c) (Value.bool b)) >>= fun z => pure (Value.bool (!z))) _ _ s
  exact wpAny_bind (wpAny_isSame_plain rfl (wpAny_pure ⟨.bl (!decide (c = b)), H, I, by rw [e]; rfl, q⟩))
end
section
variable {K : PySem.W.Frag} {σ : L2.St} {H1 : Hp} {D a b : Addr} {vs : List Nat} {j1 j2 : Nat} {xs ys : List V} {te : TE} {Qd : Hp → Prop}
theorem lc_zipS (bs : List Bool) (hl : xs.length = ys.length) (hlen : bs.length = xs.length) (hD : H1 D = Option.none) (hx : SqT K H1 a xs) (hy : SqT K H1 b ys) (hw : ∀ x y, wipe (((wipe σ vs).set j1 (some x)).set j2 (some y)) vs = wipe σ vs) (hz : xs.length ≤ 1000)
    (he : ∀ (i : Nat) (x y : V) (bb : Bool) (H' : Hp) (Q' : VK), xs[i]? = some x → ys[i]? = some y → bs[i]? = some bb → Same H1 H' → (∀ H'', Same H' H'' → Q' (.bl bb) H'') → te (((wipe σ vs).set j1 (some x)).set j2 (some y)) H' Q')
    (hd : ∀ H', Same H1 H' → H' D = some (.lst (bs.map V.bl)) → Qd H') :
    ∃ W : Nat → Nat → Hp → Prop, (∃ m, W 0 m (upd H1 D (.lst []))) ∧ ∀ i m H, W i m H →
      ((RZ.ItzT K a b).stop i H ∧ Qd H) ∨ ((RZ.ItzT K a b).go i H ∧ ∃ Nx : Hp → Prop, (∀ H', Nx H' → ∃ m', m' < m ∧ W (i + 1) m' H') ∧ ∀ x H', (RZ.ItzT K a b).yld i H x H' → gTup K 2 (gCons (gName j1) (gCons (gName j2) gNil)) x (wipe σ vs) H' fun σ2 H2 => wipe σ2 vs = wipe σ vs ∧ tYes σ2 H2 fun b H3 =>
        if b = true then te σ2 H3 fun y H4 => ∃ acc, H4 D = some (.lst acc) ∧ acc.length < sizeLine ∧ Nx (upd H4 D (.lst (acc ++ [y]))) else Nx H3) := by
  refine ⟨fun i m H => m = xs.length - i ∧ i ≤ xs.length ∧ Same H1 H ∧ H D = some (.lst ((bs.map V.bl).take i)), ⟨xs.length, by simp, Nat.zero_le _, same_new hD, upd_same⟩, ?_⟩
  rintro i m H ⟨rfl, hi, sm, hDl⟩
  have hxa := SqT_same sm hx
  have hyb := SqT_same sm hy
  by_cases hlt : i < xs.length
  · have hix : xs[i]? = some xs[i] := List.getElem?_eq_getElem hlt
    have hiy : ys[i]? = some (ys[i]'(by omega)) := List.getElem?_eq_getElem (by omega)
    have hib : bs[i]? = some (bs[i]'(by omega)) := List.getElem?_eq_getElem (by omega)
    refine .inr ⟨⟨xs, ys, _, _, hxa, hyb, hix, hiy⟩, fun H' => i + 1 ≤ xs.length ∧ Same H1 H' ∧ H' D = some (.lst ((bs.map V.bl).take (i + 1))), fun H' p' => ⟨xs.length - (i + 1), by omega, rfl, p'⟩, ?_⟩
    rintro x H' ⟨T, x0, y0, rfl, hT, rfl, f1, f2⟩
    have e1 := f1 _ hxa
    have e2 := f2 _ hyb
    have s2 := same_new (o := .tup [x0, y0]) hT
    refine ⟨T, _, rfl, SqT.of upd_same, rfl, _, _, rfl, _, _, rfl, rfl, hw _ _, yesIte ?_⟩
    refine he i x0 y0 _ _ _ e1 e2 hib (sm.trans s2) fun H'' s3 => ⟨_, s3 _ _ (s2 _ _ hDl), ?_, by omega, ?_, ?_⟩
    · rw [List.length_take]; exact small1000 (by omega)
    · intro y o hy'
      rw [upd_ne (ne_of_none hy' hD)]
      exact s3 _ _ (s2 _ _ (sm _ _ hy'))
    · rw [upd_same, List.take_add_one, List.getElem?_map, hib]; rfl
  · have e : i = xs.length := by omega
    refine .inl ⟨⟨xs, ys, hxa, hyb, .inl (by omega)⟩, hd H sm ?_⟩
    rw [hDl, e, List.take_of_length_le (by rw [List.length_map]; omega)]
end
theorem dpAll_len {K : PySem.W.Frag} {H : Hp} : ∀ {xs : List V} {ds : List PyData}, DpAll K H xs ds → xs.length = ds.length
  | _, _, .nil => rfl
  | _, _, .cons _ b => by rw [List.length_cons, List.length_cons, dpAll_len b]
theorem dpAll_cons {K : PySem.W.Frag} {H : Hp} {xs : List V} {d : PyData} {ds : List PyData} (h : DpAll K H xs (d :: ds)) : ∃ x xs', xs = x :: xs' ∧ Dp K H x d ∧ DpAll K H xs' ds := by
  cases h with
  | cons a b => exact ⟨_, _, rfl, a, b⟩
theorem dpAll_nil {K : PySem.W.Frag} {H : Hp} {xs : List V} (h : DpAll K H xs []) : xs = [] := by cases h; rfl
theorem dp_tup {K : PySem.W.Frag} {H : Hp} {x : V} {d : PyData} (h : Dp K H x d) (t : tupB d = true) : ∃ a xs ds, x = .ref a ∧ d = .tuple ds ∧ SqT K H a xs ∧ DpAll K H xs ds := by
  cases h <;> first | exact ⟨_, _, _, rfl, rfl, ‹_›, ‹_›⟩ | cases t
theorem dpAll_get {K : PySem.W.Frag} {H : Hp} : ∀ {xs : List V} {ds : List PyData} {i : Nat} {x : V}, DpAll K H xs ds → xs[i]? = some x → ∃ d, ds[i]? = some d ∧ Dp K H x d
  | _, _, i, x, .nil, h => by simp at h
  | _, _, 0, x, .cons a b, h => ⟨_, rfl, by simp at h; subst h; exact a⟩
  | _, _, i + 1, x, .cons a b, h => by
    obtain ⟨d, e1, e2⟩ := dpAll_get b (i := i) (by simpa using h)
    exact ⟨d, by simpa using e1, e2⟩
theorem cut_take {xs : List V} {n : Nat} (h : n ≤ xs.length) : cutV xs Option.none (some (n : Int)) = xs.take n := by
  unfold cutV
  rw [show HT.sIx xs.length 0 none = 0 from HT.sIx_none _ _, HT.sIx_nat, Nat.min_eq_left h]
  simp
theorem cut_drop {xs : List V} {n : Nat} (h : n ≤ xs.length) : cutV xs (some (n : Int)) Option.none = xs.drop n := by
  unfold cutV
  rw [show HT.sIx xs.length xs.length none = xs.length from HT.sIx_none _ _, HT.sIx_nat, Nat.min_eq_left h]
  exact List.take_of_length_le (by rw [List.length_drop]; omega)
theorem shaped_of {d : PyData} (h : d.canLay0 = true) (h' : d.depth ≤ 64) : SeqAt.shaped d = true := by
  show (d.canLay0 && decide (d.depth ≤ 64)) = true
  rw [Bool.and_eq_true]; exact ⟨h, decide_eq_true h'⟩
abbrev cntL : List Int := [1, 2, 1, 3, 2, 1, 2, 1, 2, 2, 1, 3]
end Sg

set_option Elab.async false
set_option linter.all false
set_option maxRecDepth 100000
set_option maxHeartbeats 4000000
/-! match: patterns by values, what they bind by the names' places -/
namespace Sg
open PySem PySem.Spec PyProof.Rows L2
def BindOk (X : Cx) (b : Str × Value) (c : Nat × V) : Prop := X.N[c.1]? = some b.1 ∧ Loc X.env.scope b.1 ∧ (X.fn b.1 = true ∨ X.env.scope.names.lookup b.1 = some .local) ∧ RelV c.2 b.2
inductive OB (X : Cx) : Option (List (Str × Value)) → Option (List (Nat × V)) → Prop
  | none : OB X none none
  | some {bs cs} : Paired (BindOk X) bs cs → OB X (some bs) (some cs)
abbrev TPt := V → Hp → (Option (List (Nat × V)) → Prop) → Prop
abbrev TPts := List V → Hp → (Option (List (Nat × V)) → Prop) → Prop
structure PPt (X : Cx) (p : Pattern) (t : TPt) : Prop where
  run : ∀ (pins : List (Addr × Obj)) (s : Shared) (σ : L2.St) (H : Hp) (v : V) (u : Value) (Q : Option (List (Nat × V)) → Prop), Inv X pins σ H s → RelV v u → t v H Q →
    wpAny (model X.prog X.w) X.A (matchPattern p X.env u) (fun r s' => ∃ o, Inv X pins σ H s' ∧ OB X r o ∧ Q o) X.xe s
structure PPts (X : Cx) (ps : List Pattern) (t : TPts) : Prop where
  run : ∀ (pins : List (Addr × Obj)) (s : Shared) (σ : L2.St) (H : Hp) (vs : List V) (us : List Value) (Q : Option (List (Nat × V)) → Prop), Inv X pins σ H s → Vals vs us → t vs H Q →
    wpAny (model X.prog X.w) X.A (matchEach ps X.env us) (fun r s' => ∃ o, Inv X pins σ H s' ∧ OB X r o ∧ Q o) X.xe s
def mWild : TPt := fun _ _ Q => Q (some [])
def mCap (i : Nat) : TPt := fun v _ Q => Q (some [(i, v)])
def mStr (x : Str) : TPt := fun v _ Q => ∃ y, v = .str y ∧ Q (if y = x then some [] else none)
def mNone : TPt := fun v _ Q => Q (if v = .non then some [] else none)
def mBool (b : Bool) : TPt := fun v _ Q => ∃ c, v = .bl c ∧ Q (if c = b then some [] else none)
def mNil : TPts := fun _ _ Q => Q (some [])
def mCons (t : TPt) (u : TPts) : TPts := fun vs H Q => ∃ v r, vs = v :: r ∧ t v H fun o => match o with
  | none => Q none
  | some bs => u r H fun o' => match o' with
    | none => Q none
    | some cs => Q (some (bs ++ cs))
def mSeq (K : PySem.W.Frag) (n : Nat) (t : TPts) : TPt := fun v H Q => ∃ a xs, v = .ref a ∧ SqT K H a xs ∧ (xs.length = n → t xs H Q) ∧ (xs.length ≠ n → Q none)
theorem Paired.app {α β : Type} {F : α → β → Prop} : ∀ {a : List α} {b : List β} {c : List α} {d : List β}, Paired F a b → Paired F c d → Paired F (a ++ c) (b ++ d)
  | _, _, _, _, .nil, q => q
  | _, _, _, _, .cons r t, q => .cons r (Paired.app t q)
section
variable {X : Cx}
theorem mp_wild {pos : Pos} : PPt X (.MatchAs none none pos) mWild := ⟨fun pins s σ H v u Q I r h => wpAny_matchPattern_Capture ⟨_, I, .some .nil, h⟩⟩
theorem mp_cap {i : Nat} {x : Str} {pos : Pos} (hi : X.N[i]? = some x) (hx : Loc X.env.scope x) (hf : X.fn x = true ∨ X.env.scope.names.lookup x = some .local := by first | exact .inl rfl | exact .inr rfl | assumption) : PPt X (.MatchAs none (some x) pos) (mCap i) :=
  ⟨fun pins s σ H v u Q I r h => wpAny_matchPattern_Capture ⟨_, I, .some (.cons ⟨hi, hx, hf, r⟩ .nil), h⟩⟩
theorem mp_str {x : Str} {j : Nat} {p pos : Pos} : PPt X (.MatchValue (.Constant (.str x) j p) pos) (mStr x) := by
  refine ⟨fun pins s σ H v u Q I r h => ?_⟩
  obtain ⟨y, rfl, q⟩ := h
  refine wpAny_matchPattern_Value (thn ((pe_str (X := X)).run pins s σ H (fun v' H' => v' = .str x ∧ H' = H) I ⟨rfl, rfl⟩) fun u2 s2 ⟨v2, H2, I2, r2, e2, e3⟩ => ?_)
  subst e2 e3
  refine thn (op_eq (X := X) pins s2 σ H2 (.str y) (.str x) u u2 (fun v' H' => v' = .bl (decide (V.str y = V.str x)) ∧ H' = H2) I2 r r2 ⟨rfl, rfl, rfl⟩) fun c s3 ⟨v3, H3, I3, r3, e4, e5⟩ => ?_
  subst e4 e5
  cases r3
  refine wpAny_truthy_bool ?_
  by_cases e : y = x
  · subst e
    rw [decide_eq_true rfl]
    rw [if_pos rfl] at q
    exact ⟨_, I3, .some .nil, q⟩
  · rw [decide_eq_false (fun z => e (by cases z; rfl))]
    rw [if_neg e] at q
    exact ⟨_, I3, .none, q⟩
theorem mp_none {pos : Pos} : PPt X (.MatchSingleton .none pos) mNone := by
  refine ⟨fun pins s σ H v u Q I r h => ?_⟩
  rw [arm_matchPattern_MatchSingleton]
  refine wpAny_pure ?_
  cases v with
  | non => cases r; exact ⟨_, I, .some .nil, h⟩
  | bl b => cases r; exact ⟨_, I, .none, h⟩
  | int i => obtain ⟨t, rfl⟩ := r; exact ⟨_, I, .none, h⟩
  | str i => obtain ⟨t, rfl⟩ := r; exact ⟨_, I, .none, h⟩
  | byt i => obtain ⟨t, rfl⟩ := r; exact ⟨_, I, .none, h⟩
  | flt i => obtain ⟨t, rfl⟩ := r; exact ⟨_, I, .none, h⟩
  | ref a => cases r; exact ⟨_, I, .none, h⟩
  | ty n => cases r; exact ⟨_, I, .none, h⟩
theorem mp_bool {b : Bool} {pos : Pos} : PPt X (.MatchSingleton (.bool b) pos) (mBool b) := by
  refine ⟨fun pins s σ H v u Q I r h => ?_⟩
  obtain ⟨c, rfl, q⟩ := h
  cases r
  rw [arm_matchPattern_MatchSingleton]
  refine wpAny_pure ?_
  cases b <;> cases c
  · exact ⟨_, I, .some .nil, q⟩
  · exact ⟨_, I, .none, q⟩
  · exact ⟨_, I, .none, q⟩
  · exact ⟨_, I, .some .nil, q⟩
theorem mps_nil : PPts X [] mNil := ⟨fun pins s σ H vs us Q I r h => wpAny_matchEach_nil ⟨_, I, .some .nil, h⟩⟩
theorem mps_cons {p : Pattern} {ps : List Pattern} {t : TPt} {u : TPts} (h1 : PPt X p t) (h2 : PPts X ps u) (hp : p.isStar = false := by rfl) : PPts X (p :: ps) (mCons t u) := by
  refine ⟨fun pins s σ H vs us Q I r h => ?_⟩
  obtain ⟨v, vr, rfl, h⟩ := h
  cases r with
  | cons r0 rr =>
    refine wpAny_matchEach_cons (thn (h1.run pins s σ H v _ _ I r0 h) fun r1 s1 ⟨o, I1, ob, q⟩ => ?_) hp
    cases ob with
    | none => exact ⟨_, I1, .none, q⟩
    | some pr =>
      refine thn (h2.run pins s1 σ H vr _ _ I1 rr q) fun r2 s2 ⟨o2, I2, ob2, q2⟩ => ?_
      cases ob2 with
      | none => exact ⟨_, I2, .none, q2⟩
      | some pr2 => exact ⟨_, I2, .some (Paired.app pr pr2), q2⟩
theorem mp_seq {ps : List Pattern} {pos : Pos} {t : TPts} {n : Nat} (hc : X.calm = true) (hs : PPts X ps t) (hn : ps.length = n := by rfl) (hstar : ps.findIdx? (·.isStar) = none := by rfl)
    (hwild : (ps.all fun p => p.isWildcard || (p.isStar && p.names.isEmpty)) = false := by rfl) : PPt X (.MatchSequence ps pos) (mSeq X.K n t) := by
  refine ⟨fun pins s σ H v u Q I r h => ?_⟩
  obtain ⟨a, xs, rfl, hq, h1, h2⟩ := h
  cases r
  obtain ⟨its, rv, ht, hz⟩ := I.tuple hq
  have hl : its.toArray.size = xs.length := by rw [List.size_toArray]; exact rv.length.symm
  have h63 := line63
  by_cases e : xs.length = n
  · refine matchSeq_tuple_hit ht (by rw [hl]; omega) (by rw [hl, hn]; exact e) ?_ hstar hwild
    rw [show ps.length = its.toArray.size by rw [hl, hn, e]]
    have I1 : Inv X pins σ H { s with toks := s.toks + 1 + 1 } := I.tok _
    refine unpackItems_tuple (I.ok.hd hc) ht fun h' hx => ?_
    have I2 : Inv X pins σ H { s with heap := h', toks := s.toks + 1 + 1 } := I.kept (t' := s.toks + 1 + 1) fun b o e => hx b o (Nat.ne_of_lt (Heap.lt_size e)) e
    exact hs.run pins _ σ H xs _ Q I2 rv (h1 e)
  · exact matchSeq_tuple_miss ht (by rw [hl]; omega) (by rw [hl, hn]; exact e) ⟨_, I.tok _, .none, h2 e⟩ hstar hwild
/-! ### the cases -/
abbrev TCs := V → TS
structure PCs (X : Cx) (cs : List MatchCase) (t : TCs) : Prop where
  run : ∀ (pins : List (Addr × Obj)) (s : Shared) (σ : L2.St) (H : Hp) (D : Ends) (v : V) (u : Value) (first : Bool), Inv X pins σ H s → RelV v u → t v D σ H →
    wpAny (model X.prog X.w) X.A (matchCases cs X.env u first) (SP X pins D) X.xe s
def setAll (σ : L2.St) (bs : List (Nat × V)) : L2.St := bs.foldl (fun s b => s.set b.1 (some b.2)) σ
def cNil : TCs := fun _ D σ H => D.nx σ H
def cCons (tp : TPt) (tb : TS) (rest : TCs) : TCs := fun v D σ H => tp v H fun o => match o with
  | none => rest v D σ H
  | some bs => tb D (setAll σ bs) H
theorem pcs_nil : PCs X [] cNil := ⟨fun pins s σ H D v u f I r h => wpAny_matchCases_nil ⟨σ, H, I, h⟩⟩
theorem bind_all (hN : X.N.Nodup) {pins : List (Addr × Obj)} {H : Hp} : ∀ {bs : List (Str × Value)} {cs : List (Nat × V)}, Paired (BindOk X) bs cs → ∀ {σ : L2.St} {s : Shared} {Q : Unit → Shared → Prop}, Inv X pins σ H s →
    (∀ s', Inv X pins (setAll σ cs) H s' → Q () s') → wpAny (model X.prog X.w) X.A (assignInOrder (bs.map fun (n, _) => bindName X.env n) (bs.map (·.2))) Q X.xe s
  | _, _, .nil, σ, s, Q, I, h => wpAny_assignInOrder_none (h s I)
  | _, _, .cons (a := b) (b := c) r t, σ, s, Q, I, h => by
    obtain ⟨x, u⟩ := b
    obtain ⟨i, v⟩ := c
    obtain ⟨h1, h2, h3, h4⟩ := r
    refine wpAny_assignInOrder_more (wpAny_bindName (store_ok I hN h1 h2 h4 (fun s' I' => ?_) h3))
    exact bind_all hN t I' h
theorem pcs_cons {p : Pattern} {body : List Stmt} {rest : List MatchCase} {tp : TPt} {tb : TS} {tr : TCs} (hN : X.N.Nodup) (hp : PPt X p tp) (hb : PSs X body tb) (hr : PCs X rest tr) : PCs X (⟨p, none, body⟩ :: rest) (cCons tp tb tr) := by
  refine ⟨fun pins s σ H D v u f I r h => ?_⟩
  refine wpAny_matchCases_cons (thn (hp.run pins s σ H v u _ I r h) fun o s1 ⟨c, I1, ob, q⟩ => ?_)
  cases ob with
  | none => exact hr.run pins s1 σ H D v u false I1 r q
  | some pr => exact bind_all hN pr I1 fun s' I' => hb.run pins s' _ H D I' q
def tMatch (te : TE) (tc : TCs) : TS := fun D σ H => te σ H fun v H1 => tc v D σ H1
theorem ps_match {e : Expr} {cs : List MatchCase} {pos : Pos} {te : TE} {tc : TCs} (he : PE X e te) (hc : PCs X cs tc) : PS X (.Match e cs pos) (tMatch te tc) := by
  refine ⟨fun pins s σ H D I h => ?_⟩
  exact wpAny_Match (thn (he.run pins s σ H _ I h) fun u s1 ⟨v, H1, I1, r1, q1⟩ => hc.run pins s1 σ H1 D v u true I1 r1 q1)
/-- a case with a guard -/
def cGuard (tp : TPt) (tg : TT) (tb : TS) (rest : TCs) : TCs := fun v D σ H => tp v H fun o => match o with
  | none => rest v D σ H
  | some bs => tg (setAll σ bs) H fun ok H' => if ok = true then tb D (setAll σ bs) H' else rest v D (setAll σ bs) H'
theorem pcs_guard {p : Pattern} {ge : Expr} {body : List Stmt} {rest : List MatchCase} {tp : TPt} {tg : TT} {tb : TS} {tr : TCs} (hN : X.N.Nodup) (hp : PPt X p tp) (hg : PT X ge tg) (hb : PSs X body tb) (hr : PCs X rest tr) : PCs X (⟨p, some ge, body⟩ :: rest) (cGuard tp tg tb tr) := by
  refine ⟨fun pins s σ H D v u f I r h => ?_⟩
  refine wpAny_matchCases_cons (thn (hp.run pins s σ H v u _ I r h) fun o s1 ⟨c, I1, ob, q⟩ => ?_)
  cases ob with
  | none => exact hr.run pins s1 σ H D v u false I1 r q
  | some pr =>
    refine bind_all hN pr I1 fun s' I' => ?_
    refine thn (hg.run pins s' _ H _ I' q) fun ok s2 ⟨H2, I2, q2⟩ => ?_
    cases ok with
    | true =>
      rw [if_pos rfl] at q2
      exact hb.run pins s2 _ H2 D I2 q2
    | false =>
      rw [if_neg Bool.false_ne_true] at q2
      exact hr.run pins s2 _ H2 D v u false I2 r q2
def mInt (n : Int) : TPt := fun v _ Q => ∃ y, v = .int y ∧ Q (if y = n then some [] else none)
theorem mp_int {n : Int} {j : Nat} {p pos : Pos} : PPt X (.MatchValue (.Constant (.int n) j p) pos) (mInt n) := by
  refine ⟨fun pins s σ H v u Q I r h => ?_⟩
  obtain ⟨y, rfl, q⟩ := h
  refine wpAny_matchPattern_Value (thn ((pe_int (X := X)).run pins s σ H (fun v' H' => v' = .int n ∧ H' = H) I ⟨rfl, rfl⟩) fun u2 s2 ⟨v2, H2, I2, r2, e2, e3⟩ => ?_)
  subst e2 e3
  refine thn (op_eq (X := X) pins s2 σ H2 (.int y) (.int n) u u2 (fun v' H' => v' = .bl (decide (V.int y = V.int n)) ∧ H' = H2) I2 r r2 ⟨rfl, rfl, rfl⟩) fun c s3 ⟨v3, H3, I3, r3, e4, e5⟩ => ?_
  subst e4 e5
  cases r3
  refine wpAny_truthy_bool ?_
  by_cases e : y = n
  · subst e
    rw [decide_eq_true rfl]
    rw [if_pos rfl] at q
    exact ⟨_, I3, .some .nil, q⟩
  · rw [decide_eq_false (fun z => e (by cases z; rfl))]
    rw [if_neg e] at q
    exact ⟨_, I3, .none, q⟩
end
end Sg

set_option Elab.async false
set_option linter.all false
set_option maxRecDepth 100000
set_option maxHeartbeats 4000000
/-! tuples without a dict of their own; dict(t) of such; x in t of data; d != {} -/
namespace Sg
open PySem PySem.Spec PyProof.Rows L2
def SqP (K : PySem.W.Frag) (H : Hp) (a : Addr) (xs : List V) : Prop :=
  (∃ o : Obj, H a = some (.frz o (.tup xs)) ∧ o.dict = none) ∨
    ∃ (o : Obj) (its : Array Value) (n : Nat), K.lookup a = some o ∧ o.cls = .type "tuple" ∧ o.dict = none ∧ o.data = .seq its n ∧ its.size ≤ sizeLine ∧ Vals xs its.toList
theorem SqP.t {K : PySem.W.Frag} {H : Hp} {a : Addr} {xs : List V} (h : SqP K H a xs) : SqT K H a xs := by
  rcases h with ⟨o, h, _⟩ | ⟨o, its, n, h1, h2, _, h3, h4, h5⟩
  · exact .inl (.inr ⟨o, h⟩)
  · exact .inr ⟨o, its, n, h1, h2, h3, h4, h5⟩
theorem SqP.plain {X : Cx} {pins : List (Addr × Obj)} {σ : L2.St} {H : Hp} {s : Shared} {a : Addr} {xs : List V} (I : Inv X pins σ H s) (h : SqP X.K H a xs) : ∃ its : List Value, Vals xs its ∧ PlainSeq "tuple" s.heap a its.toArray ∧ xs.length ≤ sizeLine := by
  rcases h with ⟨o, h, hd⟩ | ⟨o, its, n, h1, h2, hd, h3, h4, h5⟩
  · obtain ⟨e, z, its, r, o', e', hc, n, hdat⟩ := I.hok a _ h
    rw [e] at e'; cases e'
    exact ⟨its, r, ⟨o, n, e, hc, hd, hdat⟩, z⟩
  · refine ⟨its.toList, h5, ⟨o, n, I.kIn a o h1, h2, hd, by simpa using h3⟩, ?_⟩
    have e := h5.length
    simp only [Array.length_toList] at e
    omega
section
variable {X : Cx}
theorem pairs_of2 {pins : List (Addr × Obj)} {σ : L2.St} {H : Hp} {s : Shared} (I : Inv X pins σ H s) : ∀ {ps : List Addr} {kvs : List (Key × V)}, Paired (fun p kv => SqT X.K H p [kV kv.1, kv.2]) ps kvs →
    ∃ (prs : List (Key × Value)) (us : List (Value × Value)), KV kvs prs ∧ prs.length = ps.length ∧ us.length = ps.length ∧ ∀ (j : Nat) (k v : Value), us[j]? = some (k, v) → (∃ b : Addr, ps[j]? = some b ∧ IsTup s.heap b #[k, v]) ∧ ∃ key, prs[j]? = some (key, v) ∧ keyIs key k = true
  | _, _, .nil => ⟨[], [], .nil, rfl, rfl, fun j k v e => by simp at e⟩
  | _, _, .cons (a := p) (b := kv) h t => by
    obtain ⟨prs, us, r, hl, hl2, hp⟩ := pairs_of2 I t
    obtain ⟨its, rv, ht, _⟩ := I.tuple h
    obtain ⟨u, y, ei, ru, ry⟩ := vals2 rv
    subst ei
    refine ⟨(kv.1, y) :: prs, (u, y) :: us, .cons ⟨rfl, ry⟩ r, by rw [List.length_cons, List.length_cons, hl], by rw [List.length_cons, List.length_cons, hl2], fun j k v e => ?_⟩
    cases j with
    | zero =>
      have e' : (u, y) = (k, v) := Option.some.inj e
      cases e'
      exact ⟨⟨p, rfl, ht⟩, kv.1, rfl, kV_is (P := X.prog) (w := X.w) ru⟩
    | succ j =>
      obtain ⟨⟨b, e1, e2⟩, key, e3, e4⟩ := hp j k v (by simpa using e)
      exact ⟨⟨b, by simpa using e1, e2⟩, key, by simpa using e3, e4⟩
def rDictT (K : PySem.W.Frag) : List V → Hp → VK → Prop := fun xs H Q => ∃ (a : Addr) (ps : List Addr) (kvs : List (Key × V)), xs = [.ref a] ∧ SqP K H a (ps.map V.ref) ∧ Paired (fun p kv => SqT K H p [kV kv.1, kv.2]) ps kvs ∧
    ∀ p, H p = none → Q (.ref p) (upd H p (.dK (mergeK [] kvs)))
/-- dict(t) of a tuple of pairs -/
theorem call_dictT (hcalm : X.calm = true) : CallR X (.type "dict") (rDictT X.K) := by
  intro pins s σ H xs us Q I r q
  obtain ⟨a, ps, kvs, ex, hq, hp, q⟩ := q
  subst ex
  obtain ⟨u, eu, rx⟩ := vals1 r
  subst eu
  cases rx
  obtain ⟨its, rv, pl, hz⟩ := hq.plain I
  have ei := refs_at rv
  subst ei
  rw [List.length_map] at hz
  obtain ⟨prs, us2, rel, hl, hl2, hpr⟩ := pairs_of2 I hp
  have hh := I.ok.hd hcalm
  refine PySem.call_dict_pairs (knd := mixKind X.prog X.w) (kvs := prs) (PairArg.tuple a (ps.map Value.ref).toArray (fun j => ps.getD j 0) us2) hh ⟨pl, ?_, fun j k v e => ?_⟩ ⟨?_, fun j k v e => ?_⟩ ?_ fun h' tk hd' k => ?_
  · simp [hl2]
  · obtain ⟨⟨b, e1, e2⟩, _⟩ := hpr j k v e
    have e3 : ps.getD j 0 = b := by rw [List.getD_eq_getElem?_getD, e1]; rfl
    show _ = some (Value.ref (ps.getD j 0)) ∧ PairAt s.heap (ps.getD j 0) k v
    rw [e3]
    refine ⟨by simp [e1], .inl e2⟩
  · rw [hl, hl2]
  · obtain ⟨_, key, e3, e4⟩ := hpr j k v e
    exact ⟨key, e3, e4⟩
  · rw [hl2]; exact hz
  · have hm : (s.heap.objs.size == sysModules) = false := beq_eq_false_iff_ne.mpr (Nat.ne_of_gt I.big)
    have hlen : (mergeK [] kvs).length ≤ sizeLine := by
      refine Nat.le_trans (length_mergeK kvs []) ?_
      rw [List.length_nil, Nat.zero_add, rel.length, hl]
      exact hz
    exact ⟨.ref s.heap.objs.size, upd H s.heap.objs.size (.dK (mergeK [] kvs)), I.laid (t' := tk) (fun b o e => k b o (by simp) e) (Nat.le_refl _) (show ObjOk X.prog X.w _ _ _ (.dK (mergeK [] kvs)) from ⟨hlen, hm, merged [] prs, KV.merge rel .nil, hd'⟩), rfl, q _ (I.hok.fresh (Nat.le_refl _))⟩
/-- tuple(l) of a list: a new tuple without a dict of its own -/
def rTupP (K : PySem.W.Frag) : List V → Hp → VK → Prop := fun xs H Q => ∃ p ys, xs = [.ref p] ∧ SqL K H p ys ∧ ∀ (l : Addr) (o : Obj), H l = none → o.dict = none → Q (.ref l) (upd H l (.frz o (.tup ys)))
theorem call_tupP : CallR X (.type "tuple") (rTupP X.K) := by
  intro pins s σ H xs us Q I r h
  obtain ⟨p, ys, rfl, hq, q⟩ := h
  obtain ⟨u, rfl, rx⟩ := vals1 r
  cases rx
  obtain ⟨its, r', pl, hz⟩ := I.list hq
  have hlen := r'.length
  refine call_tuple_list pl.isList (fun h' kp => ?_) (by simp only [List.size_toArray] <;> omega)
  have I1 : Inv X pins σ H { s with heap := h' } := I.kept (t' := s.toks) kp
  have hget : (h'.push { cls := .type "tuple", data := .seq its.toArray }).get? h'.objs.size = some { cls := .type "tuple", data := .seq its.toArray } := Heap.get?_push_size _ rfl
  have I2 : Inv X pins σ (upd H h'.objs.size (.frz { cls := .type "tuple", data := .seq its.toArray } (.tup ys))) { s with heap := h'.push { cls := .type "tuple", data := .seq its.toArray } } :=
    I1.laid (t' := s.toks) (fun b o e => Heap.get?_push_of_some _ e) (Nat.le_refl _) (show ObjOk X.prog X.w _ _ _ (.frz { cls := .type "tuple", data := .seq its.toArray } (.tup ys)) from ⟨hget, hz, its, r', IsTup.new _ _⟩)
  exact ⟨.ref h'.objs.size, _, I2, rfl, q _ _ (I1.hok.fresh (Nat.le_refl _)) rfl⟩
/-- x in t, data of any depth -/
def rInT (K : PySem.W.Frag) : R2 := fun x y H Q => ∃ d ds, Dp K H x d ∧ Dp K H y (.tuple ds) ∧ SeqAt.shaped d = true ∧ SeqAt.shaped (.tuple ds) = true ∧ Q (.bl (ds.any fun z => PyData.eqv z d)) H
theorem op_inT (hu : X.A.units + 65 < cLine) : OpR X (compareOp .In) (rInT X.K) := by
  intro pins s σ H x y v u Q I rx ry h
  obtain ⟨d, ds, hd, he, sd, se, q⟩ := h
  obtain ⟨as, r1⟩ := Dp.reads I d x v hd rx
  obtain ⟨bs, r2⟩ := Dp.reads I (.tuple ds) y u he ry
  exact SeqAt.in_tuple_reads r2 r1 (SeqAt.canLay_of_shaped se) (SeqAt.canLay_of_shaped sd) (room_in_shaped sd hu) ⟨.bl _, H, I, rfl, q⟩
/-- d != {} -/
def rNeE : R2 := fun x y H Q => ∃ a b ks, x = .ref a ∧ y = .ref b ∧ H a = some (.dK ks) ∧ H b = some (.dK []) ∧ Q (.bl (!ks.isEmpty)) H
theorem op_neE (hu : X.A.units < cLine) : OpR X (compareOp .NotEq) rNeE := by
  intro pins s σ H x y v u Q I rx ry h
  obtain ⟨a, b, ks, rfl, rfl, ea, eb, q⟩ := h
  obtain rfl : v = Value.ref a := rx
  obtain rfl : u = Value.ref b := ry
  obtain ⟨_, ya, va, ra, da⟩ := (show ObjOk X.prog X.w H s.heap a (.dK ks) from I.hok a _ ea)
  obtain ⟨_, yb, vb, rb, db⟩ := (show ObjOk X.prog X.w H s.heap b (.dK []) from I.hok b _ eb)
  cases rb
  cases ra with
  | nil => exact PySem.W.keq_ne (knd := mixKind X.prog X.w) (r := true) ya yb da db hu (fun _ => hits_all (ks := []) (kvs := []) .nil .nil (fun p hp => nomatch hp)) (fin_bl I q (by simp))
  | cons h t => exact PySem.W.keq_ne (knd := mixKind X.prog X.w) (r := true) ya yb da db hu (fun e => by simp at e) (fin_bl I q (by simp))
end
end Sg

set_option Elab.async false
set_option linter.all false
set_option maxRecDepth 100000
set_option maxHeartbeats 4000000
namespace Sg
open PySem PySem.Spec PyProof.Rows L2
theorem cut_head {x1 x2 x3 x4 x5 : V} {r : List V} : cutV (x1 :: x2 :: x3 :: x4 :: x5 :: r) Option.none (some 5) = [x1, x2, x3, x4, x5] := by
  unfold cutV
  rw [show HT.sIx (x1 :: x2 :: x3 :: x4 :: x5 :: r).length 0 none = 0 from HT.sIx_none _ _, show (some (5 : Int)) = some ((5 : Nat) : Int) from rfl, HT.sIx_nat]
  rw [Nat.min_eq_left (by simp only [List.length_cons]; omega)]
  rfl
theorem cut_tail {x1 x2 x3 x4 x5 : V} {r : List V} : cutV (x1 :: x2 :: x3 :: x4 :: x5 :: r) (some 5) Option.none = r := by
  unfold cutV
  rw [show HT.sIx (x1 :: x2 :: x3 :: x4 :: x5 :: r).length (x1 :: x2 :: x3 :: x4 :: x5 :: r).length none = (x1 :: x2 :: x3 :: x4 :: x5 :: r).length from HT.sIx_none _ _, show (some (5 : Int)) = some ((5 : Nat) : Int) from rfl, HT.sIx_nat]
  rw [Nat.min_eq_left (by simp only [List.length_cons]; omega)]
  show (r.take _) = r
  exact List.take_of_length_le (by simp only [List.length_cons]; omega)
theorem cut_two {x1 x2 : V} {r : List V} : cutV (x1 :: x2 :: r) Option.none (some 2) = [x1, x2] := by
  unfold cutV
  rw [show HT.sIx (x1 :: x2 :: r).length 0 none = 0 from HT.sIx_none _ _, show (some (2 : Int)) = some ((2 : Nat) : Int) from rfl, HT.sIx_nat]
  rw [Nat.min_eq_left (by simp only [List.length_cons]; omega)]
  rfl
def answD (k : Str) (o : Int) : PyData := if k = "mark" then .none else if strIn k ["snap", "register"] = true then .tuple [.str "ok", .int o] else .tuple [.str "ok", .none]
def spFieldsOf (K : PySem.W.Frag) : Sp := fun vs H Q _ => ∃ (a : Addr) (x1 x2 x3 x4 x5 : V) (ys : List V), vs = [.ref a] ∧ SqT K H a (x1 :: x2 :: x3 :: x4 :: x5 :: ys) ∧ ∀ p H', Same H H' → SqT K H' p ys → Q (.ref p) H'
/-- the answer of a record, as data -/
def spAnswerOf (K : PySem.W.Frag) : Sp := fun vs H Q _ => ∃ (a : Addr) (o : Int) (k : Str) (r : List V), vs = [.ref a] ∧ SqT K H a (.int o :: .str k :: r) ∧ ∀ v H', Same H H' → Dp K H' v (answD k o) → Q v H'
/-! ### records and their effects, as data -/
inductive Bd
  | mark (d : PyData) | make (n z : Int) | remove (n : Int) | write (n p v : Int) | trim (n p : Int) | snap (n : Int) | drop (n s : Int) | register (n : Int)
  | leave (n : Int) (held : Bool) | reserve (n : Int) (w : Str) | release (n : Int) | preempt (n v : Int) (w : Option Str)
structure Rc where
  o : Int
  h : Int
  s : Int
  c : Int
  b : Bd
def wayD : Option Str → PyData
  | none => .none
  | some w => .str w
def kindS : Bd → Str
  | .mark _ => "mark" | .make _ _ => "make" | .remove _ => "remove" | .write _ _ _ => "write" | .trim _ _ => "trim" | .snap _ => "snap" | .drop _ _ => "drop" | .register _ => "register"
  | .leave _ _ => "leave" | .reserve _ _ => "reserve" | .release _ => "release" | .preempt _ _ _ => "preempt"
def fldD : Bd → List PyData
  | .mark d => [d] | .make n z => [.int n, .int z] | .remove n => [.int n] | .write n p v => [.int n, .int p, .int v] | .trim n p => [.int n, .int p] | .snap n => [.int n] | .drop n s => [.int n, .int s] | .register n => [.int n]
  | .leave n b => [.int n, .bool b] | .reserve n w => [.int n, .str w] | .release n => [.int n] | .preempt n v w => [.int n, .int v, wayD w]
abbrev Ef := List Key × PyData
def effB (o h : Int) : Bd → List Ef
  | .mark d => [([.inr "told", .inl h], d)]
  | .make n z => [([.inr "space", .inl n], .int z)]
  | .remove n => [([.inr "gone", .inl n], .int o)]
  | .write n p v => [([.inr "place", .inl n, .inl p], .int v)]
  | .trim n p => [([.inr "place", .inl n, .inl p], .none)]
  | .snap n => [([.inr "snap", .inl n, .inl o], .int o)]
  | .drop n s => [([.inr "snap", .inl n, .inl s], .none)]
  | .register n => [([.inr "key", .inl n, .inl h], .int o)]
  | .leave n false => [([.inr "key", .inl n, .inl h], .none)]
  | .leave n true => [([.inr "key", .inl n, .inl h], .none), ([.inr "hold", .inl n], .none)]
  | .reserve n w => [([.inr "hold", .inl n], .tuple [.int h, .str w])]
  | .release n => [([.inr "hold", .inl n], .none)]
  | .preempt n v none => [([.inr "key", .inl n, .inl v], .none)]
  | .preempt n v (some w) => [([.inr "key", .inl n, .inl v], .none), ([.inr "hold", .inl n], .tuple [.int h, .str w])]
def effH (r : Rc) : Ef := ([.inr "host", .inl r.h], .tuple [.int r.s, .int r.c, answD (kindS r.b) r.o])
def effR (r : Rc) : List Ef := effH r :: effB r.o r.h r.b
def RecAt (K : PySem.W.Frag) (H : Hp) (t : Addr) (r : Rc) : Prop := ∃ ys, SqT K H t (.int r.o :: .str (kindS r.b) :: .int r.h :: .int r.s :: .int r.c :: ys) ∧ DpAll K H ys (fldD r.b)
def EffAt (K : PySem.W.Frag) (H : Hp) (p : Addr) (e : Ef) : Prop := ∃ t v, H p = some (.tup [.ref t, v]) ∧ H t = some (.tup (e.1.map kV)) ∧ Dp K H v e.2
theorem EffAt.same {K : PySem.W.Frag} {H H' : Hp} {p : Addr} {e : Ef} (h : EffAt K H p e) (s : Same H H') : EffAt K H' p e := by
  obtain ⟨t, v, a, b, c⟩ := h
  exact ⟨t, v, s _ _ a, s _ _ b, dp_same s _ _ c⟩
theorem RecAt.same {K : PySem.W.Frag} {H H' : Hp} {t : Addr} {r : Rc} (h : RecAt K H t r) (s : Same H H') : RecAt K H' t r := by
  obtain ⟨ys, a, b⟩ := h
  exact ⟨ys, SqT_same s a, dpAll_same s _ _ b⟩
theorem Paired.imp2 {α β : Type} {F G : α → β → Prop} (f : ∀ a b, F a b → G a b) : ∀ {l : List α} {m : List β}, Paired F l m → Paired G l m
  | _, _, .nil => .nil
  | _, _, .cons r t => .cons (f _ _ r) (Paired.imp2 f t)
theorem dp_int {K : PySem.W.Frag} {H : Hp} {x : V} {n : Int} (h : Dp K H x (.int n)) : x = .int n := by cases h; rfl
theorem dp_strv {K : PySem.W.Frag} {H : Hp} {x : V} {n : Str} (h : Dp K H x (.str n)) : x = .str n := by cases h; rfl
theorem dp_bool {K : PySem.W.Frag} {H : Hp} {x : V} {n : Bool} (h : Dp K H x (.bool n)) : x = .bl n := by cases h; rfl
theorem dp_none {K : PySem.W.Frag} {H : Hp} {x : V} (h : Dp K H x .none) : x = .non := by cases h; rfl
/-- one effect (topic, value) made anew -/
theorem eff_one {K : PySem.W.Frag} {σ : L2.St} {H : Hp} {tk : TA} {tv : TE} {k : List Key} {d : PyData} {Q : VK} (hn : k.length ≤ 3) (hk : ∀ R : List V → Hp → Prop, R (k.map kV) H → tk σ H R)
    (hv : ∀ H' (R : VK), Same H H' → (∀ H'' v, Same H' H'' → Dp K H'' v d → R v H'') → tv σ H' R) (q : ∀ p H', Same H H' → EffAt K H' p (k, d) → Q (.ref p) H') : tTup (tCons (tTup tk) (tCons tv tNil)) σ H Q := by
  refine hk _ ⟨by rw [List.length_map]; exact Nat.le_of_lt (small1000 (by omega)), fun t ht => ?_⟩
  have s1 := same_new (o := .tup (k.map kV)) ht
  refine hv _ _ s1 fun H2 v s2 hd => ⟨by show 2 ≤ sizeLine; decide, fun p hp => ?_⟩
  have s3 := same_new (o := .tup [V.ref t, v]) hp
  exact q p _ (s1.trans (s2.trans s3)) ⟨t, v, upd_same, s3 _ _ (s2 _ _ upd_same), dp_same s3 _ _ hd⟩
theorem eff_list1 {K : PySem.W.Frag} {σ : L2.St} {H : Hp} {te : TE} {e : Ef} {Q : VK} (h : ∀ R : VK, (∀ p H', Same H H' → EffAt K H' p e → R (.ref p) H') → te σ H R) (q : ∀ l (ps : List Addr) H', Same H H' → H' l = some (.lst (ps.map V.ref)) → Paired (EffAt K H') ps [e] → Q (.ref l) H') :
    tLst (tCons te tNil) σ H Q := by
  refine h _ fun p H1 s1 e1 => ⟨by show 1 ≤ sizeLine; decide, fun l hl => ?_⟩
  have s2 := same_new (o := .lst [V.ref p]) hl
  exact q l [p] _ (s1.trans s2) upd_same (.cons (e1.same s2) .nil)
theorem eff_list2 {K : PySem.W.Frag} {σ : L2.St} {H : Hp} {te tf : TE} {e f : Ef} {Q : VK} (h : ∀ R : VK, (∀ p H', Same H H' → EffAt K H' p e → R (.ref p) H') → te σ H R) (h2 : ∀ H1 (R : VK), Same H H1 → (∀ p H', Same H1 H' → EffAt K H' p f → R (.ref p) H') → tf σ H1 R)
    (q : ∀ l (ps : List Addr) H', Same H H' → H' l = some (.lst (ps.map V.ref)) → Paired (EffAt K H') ps [e, f] → Q (.ref l) H') : tLst (tCons te (tCons tf tNil)) σ H Q := by
  refine h _ fun p H1 s1 e1 => h2 _ _ s1 fun p2 H2 s2 e2 => ⟨by show 2 ≤ sizeLine; decide, fun l hl => ?_⟩
  have s3 := same_new (o := .lst [V.ref p, V.ref p2]) hl
  exact q l [p, p2] _ (s1.trans (s2.trans s3)) upd_same (.cons (e1.same (s2.trans s3)) (.cons (e2.same s3) .nil))
theorem mS_hit {x k : Str} {H : Hp} {Q : Option (List (Nat × V)) → Prop} (e : k = x) (h : Q (some [])) : mStr x (.str k) H Q := ⟨k, rfl, by rw [if_pos e]; exact h⟩
theorem mB_hit {b : Bool} {H : Hp} {Q : Option (List (Nat × V)) → Prop} (h : Q (some [])) : mBool b (.bl b) H Q := ⟨b, rfl, by rw [if_pos rfl]; exact h⟩
theorem mB_miss {b c : Bool} {H : Hp} {Q : Option (List (Nat × V)) → Prop} (e : ¬ c = b) (h : Q none) : mBool b (.bl c) H Q := ⟨c, rfl, by rw [if_neg e]; exact h⟩
theorem mN_hit {H : Hp} {Q : Option (List (Nat × V)) → Prop} (h : Q (some [])) : mNone .non H Q := by unfold mNone; rw [if_pos rfl]; exact h
theorem mN_miss {v : V} {H : Hp} {Q : Option (List (Nat × V)) → Prop} (e : ¬ v = .non) (h : Q none) : mNone v H Q := by unfold mNone; rw [if_neg e]; exact h
theorem fld_len (b : Bd) : (fldD b).length ≤ 3 := by cases b <;> simp [fldD]
/-! ### skipping a case -/
theorem skip {K : PySem.W.Frag} {n : Nat} {x k : Str} {u : TPts} {tb : TS} {rest : TCs} {a : Addr} {ys : List V} {D : Ends} {σ : L2.St} {H : Hp} (hs : SqT K H a (.str k :: ys)) (hne : ¬ k = x) (h : rest (.ref a) D σ H) : cCons (mSeq K n (mCons (mStr x) u)) tb rest (.ref a) D σ H := by
  refine ⟨a, _, rfl, hs, fun _ => ⟨_, _, rfl, k, rfl, ?_⟩, fun _ => h⟩
  rw [if_neg hne]; exact h
def spEffKind (K : PySem.W.Frag) : Sp := fun vs H Q _ => ∃ (o h : Int) (p : Addr) (b : Bd) (ys : List V), vs = [.int o, .str (kindS b), .int h, .ref p] ∧ SqT K H p ys ∧ DpAll K H ys (fldD b) ∧
  ∀ l (ps : List Addr) H', Same H H' → H' l = some (.lst (ps.map V.ref)) → Paired (EffAt K H') ps (effB o h b) → Q (.ref l) H'
def spEffects (K : PySem.W.Frag) : Sp := fun vs H Q _ => ∃ (t : Addr) (r : Rc), vs = [.ref t] ∧ RecAt K H t r ∧
  ∀ l (ps : List Addr) H', Same H H' → H' l = some (.lst (ps.map V.ref)) → Paired (EffAt K H') ps (effR r) → Q (.ref l) H'
section
variable {P : Program} {wrl : World} {K : PySem.W.Frag} {mg : Str → Option Value} {base : Heap} {f fA fE fF aK aF : Addr} {fd fdA fdE fdF : FuncData}
abbrev EKN : List Str := ["order","kind","host","fields","told","namespace","size","place","content","snapshot","way","victim"]
theorem scEffKind : FnScope EKN ["order", "kind", "host", "fields"] (defScope sEffKind) := ⟨rfl, rfl, rfl, by decide +kernel, rfl, by decide +kernel, by decide +kernel⟩
theorem ok_effKind (F : Fun K "_effects_of_kind" "_effects_of_kind" sEffKind f fd) : FnOk P wrl K mg base CX0 1 f fd ["order", "kind", "host", "fields"] (spEffKind K) := by
  refine F.ok scEffKind (fun vs H Q E h => ?_) (fun cdv A outer s H vs Q E hr h => ?_)
  · obtain ⟨o, h, p, b, ys, rfl, _⟩ := h
    rfl
  · obtain ⟨o, h, p, b, ys, rfl, hp, hd, q⟩ := h
    refine ⟨_, (pss_one (ps_match (pe_tup (pa_cons (pv 1) (StX.pa_star (pv 3) pa_nil))) (pcs_cons scEffKind.nd (mp_seq (n := 2) rfl (mps_cons mp_str (mps_cons (mp_cap (i := 4) rfl (Or.inl rfl)) mps_nil)))
        (pss_one (ps_ret (pe_lst (pa_cons (pe_tup (pa_cons (pe_tup (pa_cons pe_str (pa_cons (pv 2) pa_nil))) (pa_cons (pv 4) pa_nil))) pa_nil))))
        (pcs_cons scEffKind.nd (mp_seq (n := 3) rfl (mps_cons mp_str (mps_cons (mp_cap (i := 5) rfl (Or.inl rfl)) (mps_cons (mp_cap (i := 6) rfl (Or.inl rfl)) mps_nil))))
        (pss_one (ps_ret (pe_lst (pa_cons (pe_tup (pa_cons (pe_tup (pa_cons pe_str (pa_cons (pv 5) pa_nil))) (pa_cons (pv 6) pa_nil))) pa_nil))))
        (pcs_cons scEffKind.nd (mp_seq (n := 2) rfl (mps_cons mp_str (mps_cons (mp_cap (i := 5) rfl (Or.inl rfl)) mps_nil)))
        (pss_one (ps_ret (pe_lst (pa_cons (pe_tup (pa_cons (pe_tup (pa_cons pe_str (pa_cons (pv 5) pa_nil))) (pa_cons (pv 0) pa_nil))) pa_nil))))
        (pcs_cons scEffKind.nd (mp_seq (n := 4) rfl (mps_cons mp_str (mps_cons (mp_cap (i := 5) rfl (Or.inl rfl)) (mps_cons (mp_cap (i := 7) rfl (Or.inl rfl)) (mps_cons (mp_cap (i := 8) rfl (Or.inl rfl)) mps_nil)))))
        (pss_one (ps_ret (pe_lst (pa_cons (pe_tup (pa_cons (pe_tup (pa_cons pe_str (pa_cons (pv 5) (pa_cons (pv 7) pa_nil)))) (pa_cons (pv 8) pa_nil))) pa_nil))))
        (pcs_cons scEffKind.nd (mp_seq (n := 3) rfl (mps_cons mp_str (mps_cons (mp_cap (i := 5) rfl (Or.inl rfl)) (mps_cons (mp_cap (i := 7) rfl (Or.inl rfl)) mps_nil))))
        (pss_one (ps_ret (pe_lst (pa_cons (pe_tup (pa_cons (pe_tup (pa_cons pe_str (pa_cons (pv 5) (pa_cons (pv 7) pa_nil)))) (pa_cons pe_non pa_nil))) pa_nil))))
        (pcs_cons scEffKind.nd (mp_seq (n := 2) rfl (mps_cons mp_str (mps_cons (mp_cap (i := 5) rfl (Or.inl rfl)) mps_nil)))
        (pss_one (ps_ret (pe_lst (pa_cons (pe_tup (pa_cons (pe_tup (pa_cons pe_str (pa_cons (pv 5) (pa_cons (pv 0) pa_nil)))) (pa_cons (pv 0) pa_nil))) pa_nil))))
        (pcs_cons scEffKind.nd (mp_seq (n := 3) rfl (mps_cons mp_str (mps_cons (mp_cap (i := 5) rfl (Or.inl rfl)) (mps_cons (mp_cap (i := 9) rfl (Or.inl rfl)) mps_nil))))
        (pss_one (ps_ret (pe_lst (pa_cons (pe_tup (pa_cons (pe_tup (pa_cons pe_str (pa_cons (pv 5) (pa_cons (pv 9) pa_nil)))) (pa_cons pe_non pa_nil))) pa_nil))))
        (pcs_cons scEffKind.nd (mp_seq (n := 2) rfl (mps_cons mp_str (mps_cons (mp_cap (i := 5) rfl (Or.inl rfl)) mps_nil)))
        (pss_one (ps_ret (pe_lst (pa_cons (pe_tup (pa_cons (pe_tup (pa_cons pe_str (pa_cons (pv 5) (pa_cons (pv 2) pa_nil)))) (pa_cons (pv 0) pa_nil))) pa_nil))))
        (pcs_cons scEffKind.nd (mp_seq (n := 3) rfl (mps_cons mp_str (mps_cons (mp_cap (i := 5) rfl (Or.inl rfl)) (mps_cons mp_bool mps_nil))))
        (pss_one (ps_ret (pe_lst (pa_cons (pe_tup (pa_cons (pe_tup (pa_cons pe_str (pa_cons (pv 5) (pa_cons (pv 2) pa_nil)))) (pa_cons pe_non pa_nil))) pa_nil))))
        (pcs_cons scEffKind.nd (mp_seq (n := 3) rfl (mps_cons mp_str (mps_cons (mp_cap (i := 5) rfl (Or.inl rfl)) (mps_cons mp_bool mps_nil))))
        (pss_one (ps_ret (pe_lst (pa_cons (pe_tup (pa_cons (pe_tup (pa_cons pe_str (pa_cons (pv 5) (pa_cons (pv 2) pa_nil)))) (pa_cons pe_non pa_nil))) (pa_cons (pe_tup (pa_cons (pe_tup (pa_cons pe_str (pa_cons (pv 5) pa_nil))) (pa_cons pe_non pa_nil))) pa_nil)))))
        (pcs_cons scEffKind.nd (mp_seq (n := 3) rfl (mps_cons mp_str (mps_cons (mp_cap (i := 5) rfl (Or.inl rfl)) (mps_cons (mp_cap (i := 10) rfl (Or.inl rfl)) mps_nil))))
        (pss_one (ps_ret (pe_lst (pa_cons (pe_tup (pa_cons (pe_tup (pa_cons pe_str (pa_cons (pv 5) pa_nil))) (pa_cons (pe_tup (pa_cons (pv 2) (pa_cons (pv 10) pa_nil))) pa_nil))) pa_nil))))
        (pcs_cons scEffKind.nd (mp_seq (n := 2) rfl (mps_cons mp_str (mps_cons (mp_cap (i := 5) rfl (Or.inl rfl)) mps_nil)))
        (pss_one (ps_ret (pe_lst (pa_cons (pe_tup (pa_cons (pe_tup (pa_cons pe_str (pa_cons (pv 5) pa_nil))) (pa_cons pe_non pa_nil))) pa_nil))))
        (pcs_cons scEffKind.nd (mp_seq (n := 4) rfl (mps_cons mp_str (mps_cons (mp_cap (i := 5) rfl (Or.inl rfl)) (mps_cons (mp_cap (i := 11) rfl (Or.inl rfl)) (mps_cons mp_none mps_nil)))))
        (pss_one (ps_ret (pe_lst (pa_cons (pe_tup (pa_cons (pe_tup (pa_cons pe_str (pa_cons (pv 5) (pa_cons (pv 11) pa_nil)))) (pa_cons pe_non pa_nil))) pa_nil))))
        (pcs_cons scEffKind.nd (mp_seq (n := 4) rfl (mps_cons mp_str (mps_cons (mp_cap (i := 5) rfl (Or.inl rfl)) (mps_cons (mp_cap (i := 11) rfl (Or.inl rfl)) (mps_cons (mp_cap (i := 10) rfl (Or.inl rfl)) mps_nil)))))
        (pss_one (ps_ret (pe_lst (pa_cons (pe_tup (pa_cons (pe_tup (pa_cons pe_str (pa_cons (pv 5) (pa_cons (pv 11) pa_nil)))) (pa_cons pe_non pa_nil))) (pa_cons (pe_tup (pa_cons (pe_tup (pa_cons pe_str (pa_cons (pv 5) pa_nil))) (pa_cons (pe_tup (pa_cons (pv 2) (pa_cons (pv 10) pa_nil))) pa_nil))) pa_nil)))))
        pcs_nil)))))))))))))))), ?_⟩
    refine ⟨_, rfl, _, rfl, p, ys, rfl, .inl hp, Nat.le_of_lt (small1000 (by have := fld_len b; have := dpAll_len hd; simp only [List.append_nil, List.length_cons]; omega)), fun t ht => ?_⟩
    rw [List.append_nil]
    have s1 := same_new (o := .tup (.str (kindS b) :: ys)) ht
    have hs : SqT K (upd H t (.tup (.str (kindS b) :: ys))) t (.str (kindS b) :: ys) := SqT.of upd_same
    generalize upd H t (.tup (.str (kindS b) :: ys)) = H1 at s1 hs
    show cCons _ _ _ _ _ _ _
    cases b with
    | mark d =>
      obtain ⟨x1, r1, rfl, e1, b1⟩ := dpAll_cons hd
      obtain rfl := dpAll_nil b1
      refine ⟨t, _, rfl, hs, fun _ => ⟨_, _, rfl, mS_hit rfl ?_⟩, fun z => absurd rfl z⟩
      refine ⟨_, _, rfl, ?_⟩
      exact eff_list1 (fun R r => eff_one (by show 2 ≤ 3; decide) (fun S z => ⟨_, rfl, z⟩) (fun H' S sm z => ⟨_, rfl, z _ _ (Same.refl _) (dp_same (s1.trans sm) _ _ e1)⟩) r) (fun l ps H' s' hl pr => q l ps H' (s1.trans s') hl pr)
    | make n z =>
      obtain ⟨x1, r1, rfl, e1, b1⟩ := dpAll_cons hd
      obtain rfl := dp_int e1
      obtain ⟨x2, r2, rfl, e2, b2⟩ := dpAll_cons b1
      obtain rfl := dp_int e2
      obtain rfl := dpAll_nil b2
      refine skip hs (by dsimp only [kindS]; decide) ?_
      refine ⟨t, _, rfl, hs, fun _ => ⟨_, _, rfl, mS_hit rfl ?_⟩, fun z => absurd rfl z⟩
      refine ⟨_, _, rfl, _, _, rfl, ?_⟩
      exact eff_list1 (fun R r => eff_one (by show 2 ≤ 3; decide) (fun S z => ⟨_, rfl, z⟩) (fun H' S sm z => ⟨_, rfl, z _ _ (Same.refl _) (.int _)⟩) r) (fun l ps H' s' hl pr => q l ps H' (s1.trans s') hl pr)
    | remove n =>
      obtain ⟨x1, r1, rfl, e1, b1⟩ := dpAll_cons hd
      obtain rfl := dp_int e1
      obtain rfl := dpAll_nil b1
      refine skip hs (by dsimp only [kindS]; decide) ?_
      refine skip hs (by dsimp only [kindS]; decide) ?_
      refine ⟨t, _, rfl, hs, fun _ => ⟨_, _, rfl, mS_hit rfl ?_⟩, fun z => absurd rfl z⟩
      refine ⟨_, _, rfl, ?_⟩
      exact eff_list1 (fun R r => eff_one (by show 2 ≤ 3; decide) (fun S z => ⟨_, rfl, z⟩) (fun H' S sm z => ⟨_, rfl, z _ _ (Same.refl _) (.int _)⟩) r) (fun l ps H' s' hl pr => q l ps H' (s1.trans s') hl pr)
    | write n p v =>
      obtain ⟨x1, r1, rfl, e1, b1⟩ := dpAll_cons hd
      obtain rfl := dp_int e1
      obtain ⟨x2, r2, rfl, e2, b2⟩ := dpAll_cons b1
      obtain rfl := dp_int e2
      obtain ⟨x3, r3, rfl, e3, b3⟩ := dpAll_cons b2
      obtain rfl := dp_int e3
      obtain rfl := dpAll_nil b3
      refine skip hs (by dsimp only [kindS]; decide) ?_
      refine skip hs (by dsimp only [kindS]; decide) ?_
      refine skip hs (by dsimp only [kindS]; decide) ?_
      refine ⟨t, _, rfl, hs, fun _ => ⟨_, _, rfl, mS_hit rfl ?_⟩, fun z => absurd rfl z⟩
      refine ⟨_, _, rfl, _, _, rfl, _, _, rfl, ?_⟩
      exact eff_list1 (fun R r => eff_one (by show 3 ≤ 3; decide) (fun S z => ⟨_, rfl, _, rfl, z⟩) (fun H' S sm z => ⟨_, rfl, z _ _ (Same.refl _) (.int _)⟩) r) (fun l ps H' s' hl pr => q l ps H' (s1.trans s') hl pr)
    | trim n p =>
      obtain ⟨x1, r1, rfl, e1, b1⟩ := dpAll_cons hd
      obtain rfl := dp_int e1
      obtain ⟨x2, r2, rfl, e2, b2⟩ := dpAll_cons b1
      obtain rfl := dp_int e2
      obtain rfl := dpAll_nil b2
      refine skip hs (by dsimp only [kindS]; decide) ?_
      refine skip hs (by dsimp only [kindS]; decide) ?_
      refine skip hs (by dsimp only [kindS]; decide) ?_
      refine skip hs (by dsimp only [kindS]; decide) ?_
      refine ⟨t, _, rfl, hs, fun _ => ⟨_, _, rfl, mS_hit rfl ?_⟩, fun z => absurd rfl z⟩
      refine ⟨_, _, rfl, _, _, rfl, ?_⟩
      exact eff_list1 (fun R r => eff_one (by show 3 ≤ 3; decide) (fun S z => ⟨_, rfl, _, rfl, z⟩) (fun H' S sm z => z _ _ (Same.refl _) .non) r) (fun l ps H' s' hl pr => q l ps H' (s1.trans s') hl pr)
    | snap n =>
      obtain ⟨x1, r1, rfl, e1, b1⟩ := dpAll_cons hd
      obtain rfl := dp_int e1
      obtain rfl := dpAll_nil b1
      refine skip hs (by dsimp only [kindS]; decide) ?_
      refine skip hs (by dsimp only [kindS]; decide) ?_
      refine skip hs (by dsimp only [kindS]; decide) ?_
      refine skip hs (by dsimp only [kindS]; decide) ?_
      refine skip hs (by dsimp only [kindS]; decide) ?_
      refine ⟨t, _, rfl, hs, fun _ => ⟨_, _, rfl, mS_hit rfl ?_⟩, fun z => absurd rfl z⟩
      refine ⟨_, _, rfl, ?_⟩
      exact eff_list1 (fun R r => eff_one (by show 3 ≤ 3; decide) (fun S z => ⟨_, rfl, _, rfl, z⟩) (fun H' S sm z => ⟨_, rfl, z _ _ (Same.refl _) (.int _)⟩) r) (fun l ps H' s' hl pr => q l ps H' (s1.trans s') hl pr)
    | drop n s =>
      obtain ⟨x1, r1, rfl, e1, b1⟩ := dpAll_cons hd
      obtain rfl := dp_int e1
      obtain ⟨x2, r2, rfl, e2, b2⟩ := dpAll_cons b1
      obtain rfl := dp_int e2
      obtain rfl := dpAll_nil b2
      refine skip hs (by dsimp only [kindS]; decide) ?_
      refine skip hs (by dsimp only [kindS]; decide) ?_
      refine skip hs (by dsimp only [kindS]; decide) ?_
      refine skip hs (by dsimp only [kindS]; decide) ?_
      refine skip hs (by dsimp only [kindS]; decide) ?_
      refine skip hs (by dsimp only [kindS]; decide) ?_
      refine ⟨t, _, rfl, hs, fun _ => ⟨_, _, rfl, mS_hit rfl ?_⟩, fun z => absurd rfl z⟩
      refine ⟨_, _, rfl, _, _, rfl, ?_⟩
      exact eff_list1 (fun R r => eff_one (by show 3 ≤ 3; decide) (fun S z => ⟨_, rfl, _, rfl, z⟩) (fun H' S sm z => z _ _ (Same.refl _) .non) r) (fun l ps H' s' hl pr => q l ps H' (s1.trans s') hl pr)
    | register n =>
      obtain ⟨x1, r1, rfl, e1, b1⟩ := dpAll_cons hd
      obtain rfl := dp_int e1
      obtain rfl := dpAll_nil b1
      refine skip hs (by dsimp only [kindS]; decide) ?_
      refine skip hs (by dsimp only [kindS]; decide) ?_
      refine skip hs (by dsimp only [kindS]; decide) ?_
      refine skip hs (by dsimp only [kindS]; decide) ?_
      refine skip hs (by dsimp only [kindS]; decide) ?_
      refine skip hs (by dsimp only [kindS]; decide) ?_
      refine skip hs (by dsimp only [kindS]; decide) ?_
      refine ⟨t, _, rfl, hs, fun _ => ⟨_, _, rfl, mS_hit rfl ?_⟩, fun z => absurd rfl z⟩
      refine ⟨_, _, rfl, ?_⟩
      exact eff_list1 (fun R r => eff_one (by show 3 ≤ 3; decide) (fun S z => ⟨_, rfl, _, rfl, z⟩) (fun H' S sm z => ⟨_, rfl, z _ _ (Same.refl _) (.int _)⟩) r) (fun l ps H' s' hl pr => q l ps H' (s1.trans s') hl pr)
    | leave n held =>
      obtain ⟨x1, r1, rfl, e1, b1⟩ := dpAll_cons hd
      obtain rfl := dp_int e1
      obtain ⟨x2, r2, rfl, e2, b2⟩ := dpAll_cons b1
      obtain rfl := dp_bool e2
      obtain rfl := dpAll_nil b2
      refine skip hs (by dsimp only [kindS]; decide) ?_
      refine skip hs (by dsimp only [kindS]; decide) ?_
      refine skip hs (by dsimp only [kindS]; decide) ?_
      refine skip hs (by dsimp only [kindS]; decide) ?_
      refine skip hs (by dsimp only [kindS]; decide) ?_
      refine skip hs (by dsimp only [kindS]; decide) ?_
      refine skip hs (by dsimp only [kindS]; decide) ?_
      refine skip hs (by dsimp only [kindS]; decide) ?_
      cases held with
      | false =>
        refine ⟨t, _, rfl, hs, fun _ => ⟨_, _, rfl, mS_hit rfl ?_⟩, fun z => absurd rfl z⟩
        refine ⟨_, _, rfl, _, _, rfl, mB_hit ?_⟩
        exact eff_list1 (fun R r => eff_one (k := [.inr "key", .inl n, .inl h]) (d := .none) (by show 3 ≤ 3; decide) (fun S z => ⟨_, rfl, _, rfl, z⟩) (fun H' S sm z => z _ _ (Same.refl _) .non) r) (fun l ps H' s' hl pr => q l ps H' (s1.trans s') hl pr)
      | true =>
        refine ⟨t, _, rfl, hs, fun _ => ⟨_, _, rfl, mS_hit rfl ?_⟩, fun z => absurd rfl z⟩
        refine ⟨_, _, rfl, _, _, rfl, mB_miss (by decide) ?_⟩
        refine ⟨t, _, rfl, hs, fun _ => ⟨_, _, rfl, mS_hit rfl ?_⟩, fun z => absurd rfl z⟩
        refine ⟨_, _, rfl, _, _, rfl, mB_hit ?_⟩
        exact eff_list2 (fun R r => eff_one (k := [.inr "key", .inl n, .inl h]) (d := .none) (by show 3 ≤ 3; decide) (fun S z => ⟨_, rfl, _, rfl, z⟩) (fun H' S sm z => z _ _ (Same.refl _) .non) r) (fun H1 R s2 r => eff_one (k := [.inr "hold", .inl n]) (d := .none) (by show 2 ≤ 3; decide) (fun S z => ⟨_, rfl, z⟩) (fun H' S sm z => z _ _ (Same.refl _) .non) r) (fun l ps H' s' hl pr => q l ps H' (s1.trans s') hl pr)
    | reserve n w =>
      obtain ⟨x1, r1, rfl, e1, b1⟩ := dpAll_cons hd
      obtain rfl := dp_int e1
      obtain ⟨x2, r2, rfl, e2, b2⟩ := dpAll_cons b1
      obtain rfl := dp_strv e2
      obtain rfl := dpAll_nil b2
      refine skip hs (by dsimp only [kindS]; decide) ?_
      refine skip hs (by dsimp only [kindS]; decide) ?_
      refine skip hs (by dsimp only [kindS]; decide) ?_
      refine skip hs (by dsimp only [kindS]; decide) ?_
      refine skip hs (by dsimp only [kindS]; decide) ?_
      refine skip hs (by dsimp only [kindS]; decide) ?_
      refine skip hs (by dsimp only [kindS]; decide) ?_
      refine skip hs (by dsimp only [kindS]; decide) ?_
      refine skip hs (by dsimp only [kindS]; decide) ?_
      refine skip hs (by dsimp only [kindS]; decide) ?_
      refine ⟨t, _, rfl, hs, fun _ => ⟨_, _, rfl, mS_hit rfl ?_⟩, fun z => absurd rfl z⟩
      refine ⟨_, _, rfl, _, _, rfl, ?_⟩
      exact eff_list1 (fun R r => eff_one (by show 2 ≤ 3; decide) (fun S z => ⟨_, rfl, z⟩) (fun H' S sm z => ⟨_, rfl, _, rfl, by show 2 ≤ sizeLine; decide, fun u hu => z _ _ (same_new hu) (.tup (SqT.of upd_same) (.cons (.int _) (.cons (.str _) .nil)))⟩) r) (fun l ps H' s' hl pr => q l ps H' (s1.trans s') hl pr)
    | release n =>
      obtain ⟨x1, r1, rfl, e1, b1⟩ := dpAll_cons hd
      obtain rfl := dp_int e1
      obtain rfl := dpAll_nil b1
      refine skip hs (by dsimp only [kindS]; decide) ?_
      refine skip hs (by dsimp only [kindS]; decide) ?_
      refine skip hs (by dsimp only [kindS]; decide) ?_
      refine skip hs (by dsimp only [kindS]; decide) ?_
      refine skip hs (by dsimp only [kindS]; decide) ?_
      refine skip hs (by dsimp only [kindS]; decide) ?_
      refine skip hs (by dsimp only [kindS]; decide) ?_
      refine skip hs (by dsimp only [kindS]; decide) ?_
      refine skip hs (by dsimp only [kindS]; decide) ?_
      refine skip hs (by dsimp only [kindS]; decide) ?_
      refine skip hs (by dsimp only [kindS]; decide) ?_
      refine ⟨t, _, rfl, hs, fun _ => ⟨_, _, rfl, mS_hit rfl ?_⟩, fun z => absurd rfl z⟩
      refine ⟨_, _, rfl, ?_⟩
      exact eff_list1 (fun R r => eff_one (by show 2 ≤ 3; decide) (fun S z => ⟨_, rfl, z⟩) (fun H' S sm z => z _ _ (Same.refl _) .non) r) (fun l ps H' s' hl pr => q l ps H' (s1.trans s') hl pr)
    | preempt n v w =>
      cases w with
      | none =>
        obtain ⟨x1, r1, rfl, e1, b1⟩ := dpAll_cons hd
        obtain rfl := dp_int e1
        obtain ⟨x2, r2, rfl, e2, b2⟩ := dpAll_cons b1
        obtain rfl := dp_int e2
        obtain ⟨x3, r3, rfl, e3, b3⟩ := dpAll_cons b2
        obtain rfl := dp_none e3
        obtain rfl := dpAll_nil b3
        refine skip hs (by dsimp only [kindS]; decide) ?_
        refine skip hs (by dsimp only [kindS]; decide) ?_
        refine skip hs (by dsimp only [kindS]; decide) ?_
        refine skip hs (by dsimp only [kindS]; decide) ?_
        refine skip hs (by dsimp only [kindS]; decide) ?_
        refine skip hs (by dsimp only [kindS]; decide) ?_
        refine skip hs (by dsimp only [kindS]; decide) ?_
        refine skip hs (by dsimp only [kindS]; decide) ?_
        refine skip hs (by dsimp only [kindS]; decide) ?_
        refine skip hs (by dsimp only [kindS]; decide) ?_
        refine skip hs (by dsimp only [kindS]; decide) ?_
        refine skip hs (by dsimp only [kindS]; decide) ?_
        refine ⟨t, _, rfl, hs, fun _ => ⟨_, _, rfl, mS_hit rfl ?_⟩, fun z => absurd rfl z⟩
        refine ⟨_, _, rfl, _, _, rfl, _, _, rfl, mN_hit ?_⟩
        exact eff_list1 (fun R r => eff_one (k := [.inr "key", .inl n, .inl v]) (d := .none) (by show 3 ≤ 3; decide) (fun S z => ⟨_, rfl, _, rfl, z⟩) (fun H' S sm z => z _ _ (Same.refl _) .non) r) (fun l ps H' s' hl pr => q l ps H' (s1.trans s') hl pr)
      | some w =>
        obtain ⟨x1, r1, rfl, e1, b1⟩ := dpAll_cons hd
        obtain rfl := dp_int e1
        obtain ⟨x2, r2, rfl, e2, b2⟩ := dpAll_cons b1
        obtain rfl := dp_int e2
        obtain ⟨x3, r3, rfl, e3, b3⟩ := dpAll_cons b2
        obtain rfl := dp_strv e3
        obtain rfl := dpAll_nil b3
        refine skip hs (by dsimp only [kindS]; decide) ?_
        refine skip hs (by dsimp only [kindS]; decide) ?_
        refine skip hs (by dsimp only [kindS]; decide) ?_
        refine skip hs (by dsimp only [kindS]; decide) ?_
        refine skip hs (by dsimp only [kindS]; decide) ?_
        refine skip hs (by dsimp only [kindS]; decide) ?_
        refine skip hs (by dsimp only [kindS]; decide) ?_
        refine skip hs (by dsimp only [kindS]; decide) ?_
        refine skip hs (by dsimp only [kindS]; decide) ?_
        refine skip hs (by dsimp only [kindS]; decide) ?_
        refine skip hs (by dsimp only [kindS]; decide) ?_
        refine skip hs (by dsimp only [kindS]; decide) ?_
        refine ⟨t, _, rfl, hs, fun _ => ⟨_, _, rfl, mS_hit rfl ?_⟩, fun z => absurd rfl z⟩
        refine ⟨_, _, rfl, _, _, rfl, _, _, rfl, mN_miss (fun z => nomatch z) ?_⟩
        refine ⟨t, _, rfl, hs, fun _ => ⟨_, _, rfl, mS_hit rfl ?_⟩, fun z => absurd rfl z⟩
        refine ⟨_, _, rfl, _, _, rfl, _, _, rfl, ?_⟩
        exact eff_list2 (fun R r => eff_one (k := [.inr "key", .inl n, .inl v]) (d := .none) (by show 3 ≤ 3; decide) (fun S z => ⟨_, rfl, _, rfl, z⟩) (fun H' S sm z => z _ _ (Same.refl _) .non) r) (fun H1 R s2 r => eff_one (k := [.inr "hold", .inl n]) (d := .tuple [.int h, .str w]) (by show 2 ≤ 3; decide) (fun S z => ⟨_, rfl, z⟩) (fun H' S sm z => ⟨_, rfl, _, rfl, by show 2 ≤ sizeLine; decide, fun u hu => z _ _ (same_new hu) (.tup (SqT.of upd_same) (.cons (.int _) (.cons (.str _) .nil)))⟩) r) (fun l ps H' s' hl pr => q l ps H' (s1.trans s') hl pr)
end
section
variable {P : Program} {wrl : World} {K : PySem.W.Frag} {mg : Str → Option Value} {base : Heap} {f fA fE fF : Addr} {fd fdA fdE fdF : FuncData}
theorem scFieldsOf : FnScope ["record"] ["record"] (defScope sFieldsOf) := ⟨rfl, rfl, rfl, by decide +kernel, rfl, by decide +kernel, by decide +kernel⟩
theorem ok_fieldsOf (F : Fun K "fields_of" "fields_of" sFieldsOf f fd) (hH : ∃ t, mg "HEAD" = some (Value.int 5 t)) : FnOk P wrl K mg base CX0 1 f fd ["record"] (spFieldsOf K) := by
  obtain ⟨t0, hHd⟩ := hH
  refine F.ok scFieldsOf (fun vs H Q E h => ?_) (fun cdv A outer s H vs Q E hr h => ?_)
  · obtain ⟨a, x1, x2, x3, x4, x5, ys, rfl, _⟩ := h
    rfl
  · obtain ⟨a, x1, x2, x3, x4, x5, ys, rfl, hs, q⟩ := h
    refine ⟨_, pss_one (ps_ret (pe_slice sl_any (pv 0) (po_some (pe_glob (v := .int 5) (by rfl) hHd ⟨_, rfl⟩)) po_none)), ?_⟩
    refine ⟨_, rfl, 5, rfl, a, _, rfl, hs, fun p H' s' hp => ?_⟩
    rw [cut_tail] at hp
    exact q p H' s' hp
theorem scAnswerOf : FnScope ["record", "order", "kind"] ["record"] (defScope sAnswerOf) := ⟨rfl, rfl, rfl, by decide +kernel, rfl, by decide +kernel, by decide +kernel⟩
theorem ok_answerOf (F : Fun K "answer_of" "answer_of" sAnswerOf f fd) : FnOk P wrl K mg base CX0 1 f fd ["record"] (spAnswerOf K) := by
  refine F.ok scAnswerOf (fun vs H Q E h => ?_) (fun cdv A outer s H vs Q E hr h => ?_)
  · obtain ⟨a, o, k, r, rfl, _⟩ := h
    rfl
  · obtain ⟨a, o, k, r, rfl, hs, q⟩ := h
    refine ⟨_, pss_cons (ps_asg (pe_slice sl_any (pv 0) po_none (po_some pe_int)) (pg_tup (by rfl) (pgs_cons (pg_name (i := 1) scAnswerOf.nd rfl (Or.inl rfl)) (pgs_cons (pg_name (i := 2) scAnswerOf.nd rfl (Or.inl rfl)) L2.pgs_nil))))
      (pss_cons (ps_if (pt_cmpR op_eq (pv 2) pe_str (nomark _)) (pss_one (ps_ret pe_non)) pss_nil)
      (pss_cons (ps_if (pt_cmpR op_in_seq (pv 2) (pe_tup (pa_cons pe_str (pa_cons pe_str pa_nil))) (by rfl)) (pss_one (ps_ret (pe_tup (pa_cons pe_str (pa_cons (pv 1) pa_nil))))) pss_nil)
      (pss_one (ps_ret (pe_tup (pa_cons pe_str (pa_cons pe_non pa_nil))))))), ?_⟩
    refine ⟨_, rfl, 2, rfl, a, _, rfl, hs, fun p H1 s1 hp => ?_⟩
    rw [cut_two] at hp
    refine ⟨p, _, rfl, hp, rfl, _, _, rfl, _, _, rfl, rfl, ?_⟩
    refine ⟨_, rfl, rfl, _, rfl, ?_⟩
    by_cases hk : k = "mark"
    · subst hk
      rw [str_eqT]
      refine iteT ?_
      exact q .non H1 s1 .non
    · rw [str_eqF hk]
      refine iteF ⟨_, rfl, by show 2 ≤ sizeLine; decide, fun tt htt => ?_⟩
      have s2 := same_new (o := .tup [.str "snap", .str "register"]) htt
      have e : inV (.str k) ((["snap", "register"] : List Str).map V.str) = strIn k ["snap", "register"] := inV_str
      refine ⟨tt, _, rfl, .inr (SqT.of upd_same), rfl, rfl, _, rfl, ?_⟩
      have e' : inV (.str k) [.str "snap", .str "register"] = strIn k ["snap", "register"] := e
      rw [e']
      cases hin : strIn k ["snap", "register"] with
      | true =>
        refine iteT ⟨_, rfl, by show 2 ≤ sizeLine; decide, fun t ht => ?_⟩
        refine q (.ref t) _ (s1.trans (s2.trans (same_new ht))) ?_
        unfold answD
        rw [if_neg hk, if_pos hin]
        exact .tup (SqT.of upd_same) (.cons (.str _) (.cons (.int _) .nil))
      | false =>
        refine iteF ⟨by show 2 ≤ sizeLine; decide, fun t ht => ?_⟩
        refine q (.ref t) _ (s1.trans (s2.trans (same_new ht))) ?_
        unfold answD
        rw [if_neg hk, if_neg (by rw [hin]; exact Bool.false_ne_true)]
        exact .tup (SqT.of upd_same) (.cons (.str _) (.cons .non .nil))
end
/-- a list of effects; one effect -/
def LE (K : PySem.W.Frag) (te : TE) (σ : L2.St) (H : Hp) (es : List Ef) : Prop := ∀ Q : VK, (∀ l (ps : List Addr) H', Same H H' → H' l = some (.lst (ps.map V.ref)) → Paired (EffAt K H') ps es → Q (.ref l) H') → te σ H Q
def EE (K : PySem.W.Frag) (te : TE) (σ : L2.St) (H : Hp) (e : Ef) : Prop := ∀ Q : VK, (∀ p H', Same H H' → EffAt K H' p e → Q (.ref p) H') → te σ H Q
section
variable {K : PySem.W.Frag} {σ : L2.St} {H : Hp} {te ta tb : TE} {es fs : List Ef} {e : Ef}
theorem LE.one (h : EE K te σ H e) : LE K (tLst (tCons te tNil)) σ H [e] := fun Q q => eff_list1 h q
theorem LE.var {i : Nat} {l : Addr} {ps : List Addr} (hσ : σ[i]? = some (some (.ref l))) (hl : H l = some (.lst (ps.map V.ref))) (pr : Paired (EffAt K H) ps es) : LE K (tVar i) σ H es := fun Q q => ⟨_, hσ, q l ps H (Same.refl H) hl pr⟩
theorem paired_append {α β : Type} {F : α → β → Prop} : ∀ {a c : List α} {b d : List β}, Paired F a b → Paired F c d → Paired F (a ++ c) (b ++ d)
  | _, _, _, _, .nil, h => h
  | _, _, _, _, .cons r t, h => .cons r (paired_append t h)
theorem LE.cat (h1 : LE K ta σ H es) (h2 : ∀ H', Same H H' → LE K tb σ H' fs) (hn : es.length + fs.length ≤ 100) : LE K (tOp rCat ta tb) σ H (es ++ fs) := fun Q q => by
  refine h1 _ fun l ps H1 s1 hl p1 => h2 H1 s1 _ fun l2 ps2 H2 s2 hl2 p2 => ?_
  have n1 := p1.length
  have n2 := p2.length
  refine ⟨l, l2, _, _, rfl, rfl, s2 _ _ hl, hl2, by rw [List.length_map, List.length_map]; exact Nat.le_of_lt (small1000 (by omega)), fun p hp => ?_⟩
  rw [← List.map_append]
  have s3 := same_new (o := .lst ((ps ++ ps2).map V.ref)) hp
  exact q p _ _ (s1.trans (s2.trans s3)) upd_same (paired_append (Paired.imp2 (fun _ _ z => z.same (s2.trans s3)) p1) (Paired.imp2 (fun _ _ z => z.same s3) p2))
theorem EE.of {tk : TA} {tv : TE} {k : List Key} {d : PyData} (hn : k.length ≤ 3) (hk : ∀ R : List V → Hp → Prop, R (k.map kV) H → tk σ H R)
    (hv : ∀ H' (R : VK), Same H H' → (∀ H'' v, Same H' H'' → Dp K H'' v d → R v H'') → tv σ H' R) : EE K (tTup (tCons (tTup tk) (tCons tv tNil))) σ H (k, d) := fun Q q => eff_one hn hk hv q
end
theorem stSet0 {te : TE} {i : Nat} {r : TS} {D : Ends} {σ : L2.St} {H : Hp} {v : V} (h : ∀ Q : VK, Q v H → te σ H Q) (k : r D (σ.set i (some v)) H) : tSeq (tAsg te (gName i)) r D σ H := h _ k
theorem seqE {K : PySem.W.Frag} {te : TE} {i : Nat} {r : TS} {D : Ends} {σ : L2.St} {H : Hp} {e : Ef} (h : EE K te σ H e) (k : ∀ p H', Same H H' → EffAt K H' p e → r D (σ.set i (some (.ref p))) H') : tSeq (tAsg te (gName i)) r D σ H := h _ k
theorem seqL {K : PySem.W.Frag} {te : TE} {i : Nat} {r : TS} {D : Ends} {σ : L2.St} {H : Hp} {es : List Ef} (h : LE K te σ H es) (k : ∀ l (ps : List Addr) H', Same H H' → H' l = some (.lst (ps.map V.ref)) → Paired (EffAt K H') ps es → r D (σ.set i (some (.ref l))) H') : tSeq (tAsg te (gName i)) r D σ H := h _ k
theorem ifStrF {i : Nat} {k x : Str} {t r : TS} {D : Ends} {σ : L2.St} {H : Hp} (hσ : σ[i]? = some (some (.str k))) (h : ¬ k = x) (n : r D σ H) : tSeq (tIfS (tTest (tOp rEq (tVar i) (tC (.str x)))) t tNext) r D σ H := by
  refine ⟨_, hσ, rfl, _, rfl, ?_⟩
  rw [decide_eq_false (show ¬ V.str k = V.str x from fun z => h (by cases z; rfl))]
  exact iteF n
theorem ifStrT {i : Nat} {x : Str} {t u r : TS} {D : Ends} {σ : L2.St} {H : Hp} (hσ : σ[i]? = some (some (.str x))) (n : t { D with nx := r D } σ H) : tSeq (tIfS (tTest (tOp rEq (tVar i) (tC (.str x)))) t u) r D σ H := by
  refine ⟨_, hσ, rfl, _, rfl, ?_⟩
  rw [decide_eq_true rfl]
  exact iteT n
def spLAnswer0 (K : PySem.W.Frag) : Sp := fun vs H Q _ => ∃ (t : Addr) (r : Rc), vs = [.ref t] ∧ RecAt K H t r ∧ ∀ v H', Same H H' → Dp K H' v (answD (kindS r.b) r.o) → Q v H'
section
variable {P : Program} {wrl : World} {K : PySem.W.Frag} {mg : Str → Option Value} {base : Heap} {f fA fE fF aK aF : Addr} {fd fdA fdE fdF : FuncData}
theorem scEffects : FnScope ["record","order","kind","host","session","counter","first"] ["record"] (defScope sEffects) := ⟨rfl, rfl, rfl, by decide +kernel, rfl, by decide +kernel, by decide +kernel⟩
theorem ok_effects (F : Fun K "effects" "effects" sEffects f fd) (hH : ∃ t, mg "HEAD" = some (Value.int 5 t)) (GA : Def P wrl K mg base CX0 "answer_of" 1 ["record"] (spAnswerOf K) fA fdA) (GE : Def P wrl K mg base CX0 "_effects_of_kind" 1 ["order", "kind", "host", "fields"] (spEffKind K) fE fdE)
    (GF : Def P wrl K mg base CX0 "fields_of" 1 ["record"] (spFieldsOf K) fF fdF) : FnOk P wrl K mg base CX0 2 f fd ["record"] (spEffects K) := by
  obtain ⟨t0, hHd⟩ := hH
  refine F.ok scEffects (fun vs H Q E h => ?_) (fun cdv A outer s H vs Q E hr h => ?_)
  · obtain ⟨t, r, rfl, _⟩ := h
    rfl
  · obtain ⟨t, r, rfl, ⟨ys, hs, hd⟩, q⟩ := h
    have hr1 : Room 1 _ := hr.mono (by decide)
    refine ⟨_, (pss_cons (ps_asg (pe_slice sl_any (pv 0) po_none (po_some (pe_glob (v := .int 5) (by rfl) hHd ⟨_, rfl⟩))) (pg_tup (by rfl) (pgs_cons (pg_name (i := 1) scEffects.nd rfl (Or.inl rfl)) (pgs_cons (pg_name (i := 2) scEffects.nd rfl (Or.inl rfl)) (pgs_cons (pg_name (i := 3) scEffects.nd rfl (Or.inl rfl)) (pgs_cons (pg_name (i := 4) scEffects.nd rfl (Or.inl rfl)) (pgs_cons (pg_name (i := 5) scEffects.nd rfl (Or.inl rfl)) L2.pgs_nil)))))))
      (pss_cons (ps_set (i := 6) scEffects.nd rfl (Or.inl rfl) (pe_tup (pa_cons (pe_tup (pa_cons pe_str (pa_cons (pv 3) pa_nil))) (pa_cons (pe_tup (pa_cons (pv 4) (pa_cons (pv 5) (pa_cons (pe_call GA.ok hr1 (by rfl) GA.mg GA.kp GA.bd .nil pass0 (pa_cons (pv 0) pa_nil)) pa_nil)))) pa_nil))))
      (pss_one (ps_ret (pe_op op_cat (pe_lst (pa_cons (pv 6) pa_nil)) (pe_call GE.ok hr1 (by rfl) GE.mg GE.kp GE.bd .nil pass0 (pa_cons (pv 1) (pa_cons (pv 2) (pa_cons (pv 3) (pa_cons (pe_call GF.ok hr1 (by rfl) GF.mg GF.kp GF.bd .nil pass0 (pa_cons (pv 0) pa_nil)) pa_nil)))))))))), ?_⟩
    refine ⟨_, rfl, 5, rfl, t, _, rfl, hs, fun p H1 s1 hp => ?_⟩
    rw [cut_head] at hp
    refine ⟨p, _, rfl, hp, rfl, _, _, rfl, _, _, rfl, _, _, rfl, _, _, rfl, _, _, rfl, rfl, ?_⟩
    have hs1 := SqT_same s1 hs
    dsimp only [gName]
    refine seqE (K := K) (e := effH r) (EE.of (by show 2 ≤ 3; decide) (fun S z => ⟨_, rfl, z⟩) (fun H2 S s2 z => ?_)) fun p1 H2 s2 e2 => ?_
    · refine ⟨_, rfl, _, rfl, _, rfl, t, r.o, kindS r.b, _, rfl, SqT_same s2 hs1, fun v H3 s3 hv => ⟨by show 3 ≤ sizeLine; decide, fun u hu => ?_⟩⟩
      exact z _ _ (s3.trans (same_new hu)) (.tup (SqT.of upd_same) (.cons (.int _) (.cons (.int _) (.cons (dp_same (same_new hu) _ _ hv) .nil))))
    · have s12 := s1.trans s2
      refine LE.cat (K := K) (es := [effH r]) (fs := effB r.o r.h r.b) (LE.one fun Q' q' => ⟨_, rfl, q' p1 H2 (Same.refl H2) e2⟩) (fun H3 s3 Q' q' => ?_) (by cases r with | mk o h s c b => cases b <;> simp [effB] <;> (try split) <;> simp) _ fun l ps H' s' hl pr => q l ps H' (s12.trans s') hl pr
      have s13 := s12.trans s3
      refine ⟨_, rfl, _, rfl, _, rfl, _, rfl, t, _, _, _, _, _, ys, rfl, SqT_same s13 hs, fun pf H4 s4 hpf => ?_⟩
      exact ⟨r.o, r.h, pf, r.b, ys, rfl, hpf, dpAll_same (s13.trans s4) _ _ hd, fun l ps H' s' hl pr => q' l ps H' (s4.trans s') hl pr⟩
end
end Sg

set_option Elab.async false
set_option linter.all false
set_option maxRecDepth 100000
set_option maxHeartbeats 4000000
namespace Sg
open PySem PySem.Spec PyProof.Rows L2
/-! ### data of tuples alone -/
mutual
def tupO : PyData → Bool
  | .none => true
  | .bool _ => true
  | .int _ => true
  | .str _ => true
  | .tuple ds => tupOs ds
  | _ => false
def tupOs : List PyData → Bool
  | [] => true
  | d :: ds => tupO d && tupOs ds
end
mutual
theorem dp_tk {K : PySem.W.Frag} {H H' : Hp} (s : TK H H') : ∀ (d : PyData) (x : V), tupO d = true → Dp K H x d → Dp K H' x d
  | .none, _, _, h => by cases h; exact .non
  | .bool _, _, _, h => by cases h; exact .bl _
  | .int _, _, _, h => by cases h; exact .int _
  | .str _, _, _, h => by cases h; exact .str _
  | .tuple ds, _, g, h => by
    have g' : tupOs ds = true := by simpa [tupO] using g
    cases h with
    | tup hs ha => exact .tup (sqT_tk hs s) (dpAll_tk s ds _ g' ha)
  | .list ds, _, g, _ => by simp [tupO] at g
  | .dict _, _, _, h => by cases h
theorem dpAll_tk {K : PySem.W.Frag} {H H' : Hp} (s : TK H H') : ∀ (ds : List PyData) (xs : List V), tupOs ds = true → DpAll K H xs ds → DpAll K H' xs ds
  | [], _, _, h => by cases h; exact .nil
  | d :: ds, _, g, h => by
    have g' : tupO d = true ∧ tupOs ds = true := by simpa [tupOs] using g
    cases h with
    | cons a b => exact .cons (dp_tk s d _ g'.1 a) (dpAll_tk s ds _ g'.2 b)
end
/-- good data: tuples alone, of a small depth -/
structure GD (n : Nat) (d : PyData) : Prop where
  t : tupO d = true
  l : d.canLay0 = true
  dp : d.depth ≤ n
theorem GD.sh {n : Nat} {d : PyData} (h : GD n d) (hn : n ≤ 64) : SeqAt.shaped d = true := shaped_of h.l (Nat.le_trans h.dp hn)
theorem GD.mono {n m : Nat} {d : PyData} (h : GD n d) (hn : n ≤ m) : GD m d := ⟨h.t, h.l, Nat.le_trans h.dp hn⟩
theorem gd_none {n : Nat} : GD n .none := ⟨rfl, by simp [PyData.canLay0], by simp [PyData.depth]⟩
theorem gd_int {n : Nat} {i : Int} : GD n (.int i) := ⟨rfl, by simp [PyData.canLay0], by simp [PyData.depth]⟩
theorem gd_tup3 {n : Nat} {a b c : PyData} (ha : GD n a) (hb : GD n b) (hc : GD n c) : GD (n + 1) (.tuple [a, b, c]) := by
  refine ⟨?_, ?_, ?_⟩
  · simp [tupO, tupOs, ha.t, hb.t, hc.t]
  · simp [PyData.canLay0, PyData.canLayAll0, ha.l, hb.l, hc.l]
  · have := ha.dp; have := hb.dp; have := hc.dp
    simp only [PyData.depth, PyData.depthAll]; omega
theorem gd_tup4 {n : Nat} {a b c d : PyData} (ha : GD n a) (hb : GD n b) (hc : GD n c) (hd : GD n d) : GD (n + 1) (.tuple [a, b, c, d]) := by
  refine ⟨?_, ?_, ?_⟩
  · simp [tupO, tupOs, ha.t, hb.t, hc.t, hd.t]
  · simp [PyData.canLay0, PyData.canLayAll0, ha.l, hb.l, hc.l, hd.l]
  · have := ha.dp; have := hb.dp; have := hc.dp; have := hd.dp
    simp only [PyData.depth, PyData.depthAll]; omega
theorem gd_tup2 {n : Nat} {a b : PyData} (ha : GD n a) (hb : GD n b) : GD (n + 1) (.tuple [a, b]) := by
  refine ⟨?_, ?_, ?_⟩
  · simp [tupO, tupOs, ha.t, hb.t]
  · simp [PyData.canLay0, PyData.canLayAll0, ha.l, hb.l]
  · have := ha.dp; have := hb.dp
    simp only [PyData.depth, PyData.depthAll]; omega
end Sg

set_option Elab.async false
set_option linter.all false
set_option maxRecDepth 100000
set_option maxHeartbeats 4000000
/-! sorted(d) of a dict whose keys are whole numbers, any number of them -/
namespace Sg
open PySem PySem.Spec PyProof.Rows L2
def rSortDI : List V → Hp → VK → Prop := fun vs H Q => ∃ (d : Addr) (es : List (Key × V)) (ns : List Int), vs = [.ref d] ∧ H d = some (.dK es) ∧ es.map (·.1) = ns.map Sum.inl ∧
  ∀ (ms : List Int) (l : Addr), ms.Perm ns → ms.Pairwise (· ≤ ·) → H l = none → Q (.ref l) (upd H l (.lst (ms.map V.int)))
theorem ints_of_keys {es : List (Key × Value)} {ns : List Int} {arr : Array Value} (hk : es.map (·.1) = ns.map Sum.inl) (hn : arr.toList.length = ns.length)
    (h : ∀ (j : Nat) (v : Value), arr[j]? = some v → ∃ (k : Key) (x : Value), es[j]? = some (k, x) ∧ keyIs k v = true) : IntsAre arr.toList ns := by
  refine ints_each hn fun j v e => ?_
  obtain ⟨k, x, g1, g2⟩ := h j v (by rw [← Array.getElem?_toList]; exact e)
  have g3 : (es.map (·.1))[j]? = some k := by rw [List.getElem?_map, g1]; rfl
  rw [hk, List.getElem?_map] at g3
  cases g4 : ns[j]? with
  | none => rw [g4] at g3; cases g3
  | some y =>
    rw [g4] at g3
    obtain rfl : Sum.inl y = k := Option.some.inj g3
    rcases keyIs_shape (show keyIs (Sum.inl y) v = true from g2) with ⟨i, t, a, b⟩ | ⟨i, t, a, b⟩
    · injection a with a
      exact ⟨y, t, rfl, by rw [a]; exact b⟩
    · cases a
section
variable {X : Cx}
theorem call_sortDI (hcalm : X.calm = true) : CallR X (.builtin "sorted") rSortDI := by
  intro pins s σ H vs us Q I r h
  obtain ⟨d, es, ns, rfl, hd, hns, q⟩ := h
  obtain ⟨u, rfl, ru⟩ := vals1 r
  obtain rfl : u = Value.ref d := ru
  obtain ⟨z, lo, vs, rel, dd⟩ := dk_rd I.hok (Rd.of hd)
  obtain ⟨ep, hat⟩ := dd.dictAt
  have hk : vs.map (·.1) = ns.map Sum.inl := by rw [← rel.keys]; exact hns
  have hl : vs.length = ns.length := by simpa using congrArg List.length hk
  have hz : vs.length ≤ sizeLine := by
    have := rel.length
    omega
  refine Calls.call_function_entry kind_sorted plain_sorted entry_sorted (args_sorted1 _) ?_
  unfold Builtin.«sorted»
  refine wpAny_bind (m := checkCount "sorted" 1 1 _) (wpAny_pure (wpAny_bind (PySem.W.kdu_collect (A := X.A.in1) (PySem.W.kdl_dict (knd := mixKind X.prog X.w) (kvs := vs) (ep := ep) lo) (I.ok.hd hcalm) hat hz fun h1 tk arr ke ha => ?_)))
  have hn : arr.toList.length = ns.length := by rw [Array.length_toList, ha.1, hl]
  have hi : IntsAre arr.toList ns := ints_of_keys hk hn ha.2
  have hza : arr.toList.length ≤ sizeLine := by omega
  have I1 : Inv X pins σ H { s with heap := h1, toks := tk } := I.kept ke
  refine wpAny_bind (wpAny_newList ?_ hza)
  have ho : (h1.push (seqObj "list" arr.toList.toArray 0)).get? h1.objs.size = some (seqObj "list" arr.toList.toArray 0) := by exact Heap.get?_push_size _ rfl
  show wpAny _ _ _ _ _ (Shared.mk (h1.push (seqObj "list" arr.toList.toArray 0)) s.gens s.drawn tk s.os)
  refine wpAny_bind (wpAny_holding (wpAny_call_entry slot_list_sort ⟨_, ho, rfl⟩ entry_list_sort (SrtO.list_sort_ord SrtO.swo_int ho hza (fun h2 => SrtO.ints_sortable hi h2) fun out k1 k2 => ⟨_, rfl, ?_⟩) (args_list_sort _)))
  obtain ⟨m1, m2, m3⟩ := SrtO.ints_out hi k1 k2
  obtain ⟨e', he'⟩ := sortedHeap_at (vs := arr.toList) (out := out.toArray) ho
  have hlen : ((out.map SrtO.iv).map V.int).length ≤ sizeLine := by
    have := m2.length_eq
    rw [List.length_map]
    omega
  refine wpAny_pure ⟨_, rfl, .ref h1.objs.size, upd H h1.objs.size (.lst ((out.map SrtO.iv).map V.int)), I1.laid (t' := tk) (fun b o eb => ?_) (Nat.le_refl _) ⟨hlen, out, e', vals_of_ints m1, he'⟩, rfl, q _ _ m2 m3 (I1.hok.fresh (Nat.le_refl _))⟩
  have hb := Heap.lt_size eb
  rw [sortedHeap_old (Nat.ne_of_lt hb) (Nat.lt_of_lt_of_le hb (by rw [size_push']; exact Nat.le_succ _))]
  exact Heap.get?_push_of_some _ eb
end
end Sg

set_option Elab.async false
set_option linter.all false
set_option maxRecDepth 100000
set_option maxHeartbeats 4000000
/-! [y for x in xs for y in ys(x) if ..] over lists -/
namespace Sg
open PySem PySem.Spec PyProof.Rows L2
theorem lc2_flat {K : PySem.W.Frag} {σ : L2.St} {H1 : Hp} {D a : Addr} {vs : List Nat} {j j1 : Nat} {xs : List V} {wi1 : TI} {tt1 : TT} {te : TE} {Qd : Hp → Prop} (yss : List (List V)) (f : V → Bool) (hlen : yss.length = xs.length) (hD : H1 D = Option.none) (hx : SqL K H1 a xs)
    (hw : ∀ x, wipe ((wipe σ vs).set j (some x)) vs = wipe σ vs) (hw1 : ∀ x y, wipe ((wipe ((wipe σ vs).set j (some x)) [j1]).set j1 (some y)) [j1] = wipe ((wipe σ vs).set j (some x)) [j1]) (hz : yss.flatten.length ≤ 1000)
    (hin : ∀ (i : Nat) (x : V) (ys : List V) (H' : Hp) (R : It → Hp → Prop), xs[i]? = some x → yss[i]? = some ys → Same H1 H' → (∀ b H'', Same H' H'' → (∀ H3, Same H1 H3 → SqL K H3 b ys) → R (Itl K b) H'') → wi1 ((wipe σ vs).set j (some x)) H' R)
    (ht : ∀ (i : Nat) (x y : V) (ys : List V) (H' : Hp) (Q' : Bool → Hp → Prop), xs[i]? = some x → yss[i]? = some ys → y ∈ ys → Same H1 H' → (∀ H'', Same H' H'' → Q' (f y) H'') → tt1 ((wipe ((wipe σ vs).set j (some x)) [j1]).set j1 (some y)) H' Q')
    (he : ∀ (i : Nat) (x y : V) (ys : List V) (H' : Hp) (Q' : VK), xs[i]? = some x → yss[i]? = some ys → y ∈ ys → Q' y H' → te ((wipe ((wipe σ vs).set j (some x)) [j1]).set j1 (some y)) H' Q')
    (hd : ∀ H', Same H1 H' → H' D = some (.lst (yss.flatten.filter f)) → Qd H') :
    ∃ W : Nat → Nat → Hp → Prop, (∃ m, W 0 m (upd H1 D (.lst []))) ∧ ∀ i m H, W i m H →
      ((Itl K a).stop i H ∧ Qd H) ∨ ((Itl K a).go i H ∧ ∃ Nx : Hp → Prop, (∀ H', Nx H' → ∃ m', m' < m ∧ W (i + 1) m' H') ∧ ∀ x H', (Itl K a).yld i H x H' → gName j x (wipe σ vs) H' fun σ2 H2 => wipe σ2 vs = wipe σ vs ∧ tYes σ2 H2 fun b H3 =>
        if b = true then wi1 σ2 H3 fun J1 H4 => ∃ W1 : Nat → Nat → Hp → Prop, (∃ m, W1 0 m H4) ∧ ∀ g k H, W1 g k H →
          (J1.stop g H ∧ Nx H) ∨ (J1.go g H ∧ ∃ Nx1 : Hp → Prop, (∀ H', Nx1 H' → ∃ k', k' < k ∧ W1 (g + 1) k' H') ∧ ∀ x H', J1.yld g H x H' → gName j1 x (wipe σ2 [j1]) H' fun σ3 H5 => wipe σ3 [j1] = wipe σ2 [j1] ∧ tt1 σ3 H5 fun b H6 =>
            if b = true then te σ3 H6 fun y H7 => ∃ acc, H7 D = some (.lst acc) ∧ acc.length < sizeLine ∧ Nx1 (upd H7 D (.lst (acc ++ [y]))) else Nx1 H6)
        else Nx H3) := by
  have step : ∀ (H' : Hp) (acc : List V), Same H1 H' → H' D = some (.lst acc) → ∀ zs, Same H1 (upd H' D (.lst zs)) := fun H' acc sm h zs y o hy => by
    rw [upd_ne (ne_of_none hy hD)]; exact sm _ _ hy
  have hfl : ∀ {a b : List (List V)}, (a ++ b).flatten.length = a.flatten.length + b.flatten.length := fun {a b} => by rw [List.flatten_append, List.length_append]
  refine ⟨fun i m H => m = xs.length - i ∧ i ≤ xs.length ∧ Same H1 H ∧ H D = some (.lst ((yss.take i).flatten.filter f)), ⟨xs.length, by simp, Nat.zero_le _, same_new hD, by rw [List.take_zero]; exact upd_same⟩, ?_⟩
  rintro i m H ⟨rfl, hi, sm, hDl⟩
  have sq := sm.seq hx
  by_cases hlt : i < xs.length
  · refine .inr ⟨⟨xs, xs[i], sq, by simp [hlt]⟩, fun H' => Same H1 H' ∧ H' D = some (.lst ((yss.take (i + 1)).flatten.filter f)), fun H' p => ⟨xs.length - (i + 1), by omega, rfl, hlt, p.1, p.2⟩, fun x H' y => ?_⟩
    obtain ⟨rfl, hxy⟩ := y
    have hxi := hxy xs sq
    have hyi : yss[i]? = some yss[i] := List.getElem?_eq_getElem (by omega)
    have htk : (yss.take (i + 1)).flatten = (yss.take i).flatten ++ yss[i] := by
      rw [List.take_add_one, hyi, List.flatten_append]; simp
    have htot : ((yss.take i).flatten ++ yss[i]).length ≤ 1000 := by
      rw [← htk]
      have e : yss.flatten.length = (yss.take (i + 1)).flatten.length + (yss.drop (i + 1)).flatten.length := by rw [← hfl, List.take_append_drop]
      omega
    rw [List.length_append] at htot
    refine ⟨hw _, yesIte (hin i x _ _ _ hxi hyi sm fun b H4 s4 hb => ?_)⟩
    refine ⟨fun g k H => k = yss[i].length - g ∧ g ≤ yss[i].length ∧ Same H1 H ∧ H D = some (.lst (((yss.take i).flatten ++ yss[i].take g).filter f)), ⟨yss[i].length, by simp, Nat.zero_le _, sm.trans s4, by rw [List.take_zero, List.append_nil]; exact s4 _ _ hDl⟩, ?_⟩
    rintro g k H5 ⟨rfl, hg, sm5, hD5⟩
    have sq5 := hb H5 sm5
    by_cases hgl : g < yss[i].length
    · refine .inr ⟨⟨yss[i], yss[i][g], sq5, by simp [hgl]⟩, fun H' => Same H1 H' ∧ H' D = some (.lst (((yss.take i).flatten ++ yss[i].take (g + 1)).filter f)), fun H' p => ⟨yss[i].length - (g + 1), by omega, rfl, hgl, p.1, p.2⟩, fun z H6 yz => ?_⟩
      obtain ⟨rfl, hzz⟩ := yz
      have hzg := hzz _ sq5
      have hzm := List.mem_of_getElem? hzg
      have htg : (yss.take i).flatten ++ yss[i].take (g + 1) = ((yss.take i).flatten ++ yss[i].take g) ++ [z] := by
        rw [List.take_add_one, hzg, ← List.append_assoc]; rfl
      refine ⟨hw1 _ _, ht i x z _ _ _ hxi hyi hzm sm5 fun H7 s7 => ?_⟩
      have hD7 := s7 _ _ hD5
      cases hf : f z with
      | true =>
        rw [if_pos rfl]
        refine he i x z _ _ _ hxi hyi hzm ⟨_, hD7, small1000 ?_, step H7 _ (sm5.trans s7) hD7 _, ?_⟩
        · refine Nat.le_trans (List.length_filter_le _ _) ?_
          rw [List.length_append, List.length_take]; omega
        · rw [upd_same, htg, List.filter_append]
          simp [hf]
      | false =>
        rw [if_neg Bool.false_ne_true]
        refine ⟨sm5.trans s7, ?_⟩
        rw [hD7, htg, List.filter_append]
        simp [hf]
    · have eg : g = yss[i].length := by omega
      refine .inl ⟨⟨_, sq5, by omega⟩, sm5, ?_⟩
      rw [hD5, eg, List.take_length, htk]
  · have ei : i = xs.length := by omega
    refine .inl ⟨⟨xs, sq, by omega⟩, hd H sm ?_⟩
    rw [hDl, ei, ← hlen, List.take_length]
end Sg

set_option Elab.async false
set_option linter.all false
set_option maxRecDepth 100000
set_option maxHeartbeats 4000000
namespace Sg
open PySem PySem.Spec PyProof.Rows L2
theorem hu65 {k : Nat} {A : Around} (hr : Room k A) : A.units + 65 < cLine := by have := hr.un; omega
theorem shaped_list {ds : List PyData} (h : PyData.canLayAll0 ds = true) (h' : PyData.depthAll ds ≤ 63) : SeqAt.shaped (.list ds) = true :=
  shaped_of (by simpa [PyData.canLay0] using h) (by simp only [PyData.depth]; omega)
theorem paired_at {α β : Type} {F : α → β → Prop} : ∀ {a : List α} {b : List β} {i : Nat} {x : α}, Paired F a b → a[i]? = some x → ∃ y, b[i]? = some y ∧ F x y
  | _, _, 0, _, .cons r _, h => ⟨_, rfl, by rw [← Option.some.inj h]; exact r⟩
  | _, _, i + 1, x, .cons (a := p) _ t, h => paired_at (i := i) t (by simpa using h)
/-- a record, as data -/
def recDt (r : Rc) : PyData := .tuple (.int r.o :: .str (kindS r.b) :: .int r.h :: .int r.s :: .int r.c :: fldD r.b)
structure RGood (r : Rc) : Prop where
  t : tupOs (fldD r.b) = true
  l : (recDt r).canLay0 = true
  dp : (recDt r).depth ≤ 60
theorem RGood.sh {r : Rc} (g : RGood r) : SeqAt.shaped (recDt r) = true := shaped_of g.l (Nat.le_trans g.dp (by decide))
theorem RGood.sh1 {r : Rc} (g : RGood r) : SeqAt.shaped (.list [recDt r]) = true := shaped_list (by simp only [PyData.canLayAll0, g.l, Bool.and_self]) (by have := g.dp; simp only [PyData.depthAll]; omega)
theorem RecAt.dp {K : PySem.W.Frag} {H : Hp} {t : Addr} {r : Rc} (h : RecAt K H t r) : Dp K H (.ref t) (recDt r) := by
  obtain ⟨ys, a, b⟩ := h
  exact .tup a (.cons (.int _) (.cons (.str _) (.cons (.int _) (.cons (.int _) (.cons (.int _) b)))))
theorem RecAt.tk {K : PySem.W.Frag} {H H' : Hp} {t : Addr} {r : Rc} (h : RecAt K H t r) (g : RGood r) (s : TK H H') : RecAt K H' t r := by
  obtain ⟨ys, a, b⟩ := h
  exact ⟨ys, sqT_tk a s, dpAll_tk s _ _ g.t b⟩
/-! ### each_once -/
abbrev OE := Rc × Addr × Addr
def kvE (es : List OE) : List (Key × V) := es.map fun e => (Sum.inl e.1.o, V.ref e.2.2)
theorem es_val {n : Int} {v : V} : ∀ {es : List OE}, valV (kvE es) (Sum.inl n) = some v → ∃ e ∈ es, e.1.o = n ∧ v = .ref e.2.2
  | [], h => by cases h
  | e :: es, h => by
    by_cases z : e.1.o = n
    · have e1 : valV (kvE (e :: es)) (Sum.inl n) = some (.ref e.2.2) := valV_pos (p := (Sum.inl e.1.o, V.ref e.2.2)) (by rw [z])
      rw [e1] at h
      exact ⟨e, List.mem_cons_self, z, (Option.some.inj h).symm⟩
    · have e1 : valV (kvE (e :: es)) (Sum.inl n) = valV (kvE es) (Sum.inl n) := valV_neg (p := (Sum.inl e.1.o, V.ref e.2.2)) (fun y => z (Sum.inl.inj y))
      rw [e1] at h
      obtain ⟨x, hx, a, b⟩ := es_val h
      exact ⟨x, List.mem_cons_of_mem _ hx, a, b⟩
theorem es_none {n : Int} : ∀ {es : List OE}, valV (kvE es) (Sum.inl n) = none → ∀ e ∈ es, e.1.o ≠ n
  | [], _, e, he => nomatch he
  | x :: es, h, e, he => by
    have z : ¬ x.1.o = n := fun z => by
      have e1 : valV (kvE (x :: es)) (Sum.inl n) = some (.ref x.2.2) := valV_pos (p := (Sum.inl x.1.o, V.ref x.2.2)) (by rw [z])
      rw [e1] at h; cases h
    have e1 : valV (kvE (x :: es)) (Sum.inl n) = valV (kvE es) (Sum.inl n) := valV_neg (p := (Sum.inl x.1.o, V.ref x.2.2)) (fun y => z (Sum.inl.inj y))
    rw [e1] at h
    rcases List.mem_cons.mp he with rfl | he
    · exact z
    · exact es_none h e he
theorem nodup_key {x y : OE} : ∀ {es : List OE}, (es.map (·.1.o)).Nodup → x ∈ es → y ∈ es → x.1.o = y.1.o → x = y
  | [], _, h, _, _ => nomatch h
  | e :: es, nd, hx, hy, h => by
    rw [List.map_cons, List.nodup_cons] at nd
    rcases List.mem_cons.mp hx with a | a <;> rcases List.mem_cons.mp hy with b | b
    · rw [a, b]
    · exact absurd (show e.1.o ∈ es.map (·.1.o) from List.mem_map.mpr ⟨y, b, by rw [← h, a]⟩) nd.1
    · exact absurd (show e.1.o ∈ es.map (·.1.o) from List.mem_map.mpr ⟨x, a, by rw [h, b]⟩) nd.1
    · exact nodup_key nd.2 a b h
theorem es_get {es : List OE} (nd : (es.map (·.1.o)).Nodup) {e : OE} (he : e ∈ es) : valV (kvE es) (Sum.inl e.1.o) = some (.ref e.2.2) := by
  cases h : valV (kvE es) (Sum.inl e.1.o) with
  | none => exact absurd rfl (es_none h e he)
  | some v =>
    obtain ⟨x, hx, a, b⟩ := es_val h
    have : x = e := nodup_key nd hx he a
    rw [b, this]
def eOf (es : List OE) (m : Int) : OE := (es.find? fun e => decide (e.1.o = m)).getD (⟨0, 0, 0, 0, .snap 0⟩, 0, 0)
theorem eOf_at {es : List OE} (nd : (es.map (·.1.o)).Nodup) {e : OE} (he : e ∈ es) : eOf es e.1.o = e := by
  unfold eOf
  cases h : es.find? (fun x => decide (x.1.o = e.1.o)) with
  | none =>
    have := List.find?_eq_none.mp h e he
    simp at this
  | some x =>
    have h1 := List.find?_some h
    have h2 := List.mem_of_find?_eq_some h
    exact nodup_key nd h2 he (of_decide_eq_true h1)
theorem flat_one {α β : Type} (g : α → β) : ∀ l : List α, (l.map fun m => [g m]).flatten = l.map g
  | [] => rfl
  | m :: l => by rw [List.map_cons, List.flatten_cons, flat_one g l]; rfl
theorem paired_map2 {α β γ : Type} {F : β → γ → Prop} {g : α → β} {h : α → γ} : ∀ {l : List α}, (∀ x ∈ l, F (g x) (h x)) → Paired F (l.map g) (l.map h)
  | [], _ => .nil
  | x :: l, hl => .cons (hl x List.mem_cons_self) (paired_map2 fun y hy => hl y (List.mem_cons_of_mem _ hy))
def spOnce (K : PySem.W.Frag) : Sp := fun vs H Q _ => ∃ (a : Addr) (ts : List Addr) (rs : List Rc), vs = [.ref a] ∧ SqL K H a (ts.map V.ref) ∧ Paired (RecAt K H) ts rs ∧ rs.length ≤ 1000 ∧ (∀ r ∈ rs, RGood r) ∧ (∀ x ∈ rs, ∀ y ∈ rs, x.o = y.o → x = y) ∧
  ∀ l ts' rs' H', Same H H' → H l = Option.none → H' l = some (.lst (ts'.map V.ref)) → Paired (RecAt K H') ts' rs' → rs'.Pairwise (fun x y => x.o < y.o) → (∀ r, r ∈ rs' ↔ r ∈ rs) → Q (.ref l) H'
section
variable {P : Program} {wd : World} {K : PySem.W.Frag} {mg : Str → Option Value} {base : Heap} {f : Addr} {fd : FuncData}
theorem scOnce : FnScope ["records","by_order","record","same","order"] ["records"] (defScope sOnce) := ⟨rfl, rfl, rfl, by decide +kernel, rfl, by decide +kernel, by decide +kernel⟩
theorem ok_once (F : Fun K "each_once" "each_once" sOnce f fd) (hsorted : mg "sorted" = none) : FnOk P wd K mg base CX0 1 f fd ["records"] (spOnce K) := by
  refine F.ok scOnce (fun vs H Q E h => ?_) (fun cdv A outer s H vs Q E hr h => ?_)
  · obtain ⟨a, ts, ns, rfl, _⟩ := h
    rfl
  · obtain ⟨a, ts, rs, rfl, ha, hp, hn, hg, hu, k1⟩ := h
    refine ⟨_, (pss_cons (ps_set (i := 1) scOnce.nd rfl (Or.inr rfl) pe_dnewK)
      (pss_cons (ps_for PassesOwn.never rfl (pi_list (pv 0)) (pg_name (i := 2) scOnce.nd rfl (Or.inl rfl))
      (pss_cons (ps_set (i := 3) scOnce.nd rfl (Or.inl rfl) (pe_dsetd (pv 1) (pe_ix ix_tup (pv 2) pe_int (fun _ _ => rfl)) (pe_lst pa_nil) ⟨rfl, rfl, rfl, rfl⟩))
      (pss_one (ps_if (pt_cmpR (op_notInD (hu65 hr)) (pv 2) (pv 3) (by rfl))
      (pss_one (ps_expr (pe_bm PySem.F.plainAttrs_list PySem.F.slot_list_append PySem.F.type_list_append mt_append (pv 3) (pa_cons (pv 2) pa_nil)))) pss_nil))))
      (pss_one (ps_ret (pe_lc2 (own := [("order", 4), ("record", 2)]) (g := gName 4) (g1 := gName 2) (tt := tYes) (wi1 := iList K (tDGet (tVar 1) (tVar 4))) (tt1 := tYes) (te := tVar 2) (vs1 := [2]) (by rfl) scOnce.nd (pi_list (pe_callB (call_sortDI rfl) (by rfl) hsorted (by decide +kernel) (pa_cons (pv 1) pa_nil))) (blkOk_by (own := [("order", 4), ("record", 2)]) (N := ["records", "by_order", "record", "same", "order"]) (sc := defScope sOnce) (by decide +kernel)) (by decide) (fun _ _ _ _ _ => pg_name (i := 4) scOnce.nd rfl (Or.inl rfl)) (fun _ _ _ _ _ => pts_nil) (fun _ _ _ _ _ => (pi_list (pe_dget (hu_of hr) (pv 1) (pv 4) (fun _ _ => rfl)))) (fun _ _ _ _ _ => pg_name (i := 2) scOnce.nd rfl (Or.inl rfl)) (fun _ _ _ _ _ => pts_nil) (fun _ _ _ _ _ => by exact (pv 2))))))), ?_⟩
    refine fun d hd => ?_
    have s1 := same_new (o := .dK []) hd
    have hd1 : upd H d (.dK []) d = some (.dK (kvE [])) := upd_same
    generalize upd H d (.dK []) = H1 at s1 hd1
    have hlen := hp.length
    refine ⟨_, rfl, a, rfl, ⟨_, s1.seq ha⟩, ?_⟩
    refine for_list (K := K) (a := a) (xs := ts.map V.ref) (fun i σ' H' => ∃ (v2 v3 : Option V) (es : List OE), σ' = [some (.ref a), some (.ref d), v2, v3, none] ∧ Same H H' ∧ H' d = some (.dK (kvE es)) ∧ (es.map (·.1.o)).Nodup ∧ es.length ≤ i ∧ (∀ e ∈ es, H' e.2.2 = some (.lst [.ref e.2.1]) ∧ RecAt K H' e.2.1 e.1 ∧ e.2.2 ≠ d) ∧ ∀ r, r ∈ es.map (·.1) ↔ r ∈ rs.take i)
      ⟨none, none, [], rfl, s1, hd1, List.nodup_nil, Nat.zero_le _, ⟨(by intro e h; cases h), (by intro n; simp)⟩⟩ (fun i σ' H' _ ⟨_, _, _, _, sm, _⟩ => sm.seq ha) ?_ ?_
    · rintro i x σ' H2 hx ⟨v2, v3, es, rfl, sm, hd2, nd, hel, hes, hmem⟩
      obtain ⟨t, hti, rfl⟩ := map_get hx
      obtain ⟨r, hni, htn⟩ := paired_at hp hti
      have hrm := List.mem_of_getElem? hni
      have gr := hg r hrm
      have rt : RecAt K H2 t r := htn.same sm
      obtain ⟨ys, hts, _⟩ := id rt
      have hil := (List.getElem?_eq_some_iff.mp hni).1
      have tk : ∀ m, m ∈ rs.take (i + 1) ↔ m ∈ rs.take i ∨ m = r := fun m => by
        rw [List.take_add_one, hni, List.mem_append]; simp
      refine ⟨_, rfl, d, rfl, .inl ⟨_, Rd.of hd2⟩, _, rfl, t, _, _, _, rfl, rfl, hts, atI_nat (j := 0) rfl, by show 0 ≤ sizeLine; decide, fun z hz => ?_⟩
      have s3 := same_new (o := .lst []) hz
      have hd3 := s3 _ _ hd2
      have rt3 := rt.same s3
      have hzd : z ≠ d := fun e => by rw [e, hd2] at hz; cases hz
      refine ⟨kvE es, Sum.inl r.o, hd3, rfl, ?_, fun v hv => ?_, fun hnone => ?_⟩
      · unfold kvE; rw [List.length_map]; exact small1000 (by omega)
      · obtain ⟨e, he, en, ev⟩ := es_val hv
        subst ev
        obtain ⟨g1, g2, g3⟩ := hes e he
        have hl3 := s3 _ _ g1
        have re := g2.same s3
        have er : e.1 = r := hu _ (List.mem_of_mem_take ((hmem _).mp (List.mem_map.mpr ⟨e, he, rfl⟩))) _ hrm en
        rw [er] at re
        refine ⟨_, rfl, _, rfl, _, _, rt3.dp, .lst (SqL.of hl3) (.cons re.dp .nil), gr.sh, gr.sh1, _, rfl, ?_⟩
        rw [List.any_cons, SeqAt.eqv_refl _ gr.l]
        refine iteF ⟨_, _, es, rfl, sm.trans s3, hd3, nd, by omega, fun e' he' => ⟨s3 _ _ (hes e' he').1, (hes e' he').2.1.same s3, (hes e' he').2.2⟩, fun m => ?_⟩
        rw [hmem m, tk m]
        constructor
        · exact .inl
        · rintro (h | h)
          · exact h
          · rw [h]; exact (hmem r).mp (List.mem_map.mpr ⟨e, he, er⟩)
      · have hput : putK (kvE es) (Sum.inl r.o) (V.ref z) = kvE (es ++ [(r, t, z)]) := by
          rw [putK_new _ hnone]; unfold kvE; rw [List.map_append]; rfl
        rw [hput]
        have nn := es_none hnone
        generalize hH4 : upd (upd H2 z (.lst [])) d (.dK (kvE (es ++ [(r, t, z)]))) = H4
        have k34 : ∀ b, b ≠ d → ∀ o, upd H2 z (.lst []) b = some o → H4 b = some o := fun b hb o ho => by rw [← hH4, upd_ne hb]; exact ho
        have hz4 : H4 z = some (.lst []) := k34 z hzd _ upd_same
        have hd4 : H4 d = some (.dK (kvE (es ++ [(r, t, z)]))) := by rw [← hH4, upd_same]
        have tk24 : TK H2 H4 := by
          refine (TK.of s3).trans ?_
          rw [← hH4]
          exact TK.off (xs := [d]) (Off.upd (by simp)) fun x hx => by rw [List.mem_singleton.mp hx]; exact .inr ⟨_, hd3⟩
        have rt4 := rt.tk gr tk24
        refine ⟨_, rfl, _, rfl, _, _, rt4.dp, .lst (SqL.of hz4) .nil, gr.sh, shaped_list (by simp [PyData.canLayAll0]) (by simp [PyData.depthAll]), _, rfl, ?_⟩
        refine iteT ⟨_, rfl, .inl ⟨rfl, _, SqL.of hz4⟩, _, rfl, z, [], _, rfl, rfl, hz4, by show 0 < sizeLine; decide, ?_⟩
        generalize hH5 : upd H4 z (.lst ([] ++ [V.ref t])) = H5
        have k45 : ∀ b, b ≠ z → ∀ o, H4 b = some o → H5 b = some o := fun b hb o ho => by rw [← hH5, upd_ne hb]; exact ho
        have keep : ∀ b o, H2 b = some o → b ≠ d → H5 b = some o := fun b o ho hb => k45 b (ne_of_none ho hz) _ (k34 b hb _ (s3 _ _ ho))
        have hdH : H d = Option.none := hd
        have tk25 : TK H2 H5 := by
          refine tk24.trans ?_
          rw [← hH5]
          exact TK.off (xs := [z]) (Off.upd (by simp)) fun x hx => by rw [List.mem_singleton.mp hx]; exact .inl ⟨_, hz4⟩
        refine ⟨_, _, es ++ [(r, t, z)], rfl, fun b o ho => keep b o (sm _ _ ho) (ne_of_none ho hdH), k45 d (fun e => hzd e.symm) _ hd4, ?_, ?_, fun e he => ?_, fun m => ?_⟩
        · rw [List.map_append, List.nodup_append]
          refine ⟨nd, by simp, fun p hp' q hq' => ?_⟩
          obtain ⟨e, he, rfl⟩ := List.mem_map.mp hp'
          have : q = r.o := by simpa using hq'
          rw [this]; exact nn e he
        · rw [List.length_append, List.length_singleton]; omega
        · rcases List.mem_append.mp he with he | he
          · exact ⟨keep _ _ (hes e he).1 (hes e he).2.2, (hes e he).2.1.tk (hg _ (List.mem_of_mem_take ((hmem _).mp (List.mem_map.mpr ⟨e, he, rfl⟩)))) tk25, (hes e he).2.2⟩
          · rw [List.mem_singleton.mp he]
            exact ⟨by rw [← hH5]; exact upd_same, rt.tk gr tk25, hzd⟩
        · rw [List.map_append, List.mem_append, hmem m, tk m]
          simp
    · rintro σ' H2 ⟨v2, v3, es, rfl, sm, hd2, nd, hel, hes, hmem⟩
      rw [List.length_map] at hmem hel
      rw [show ts.length = rs.length from hlen, List.take_length] at hmem
      have hes1 : es.length ≤ 1000 := by omega
      refine ⟨_, rfl, d, kvE es, es.map (·.1.o), rfl, hd2, by unfold kvE; rw [List.map_map, List.map_map]; rfl, fun ms l hperm hpw hl => ?_⟩
      have s3 := same_new (o := .lst (ms.map V.int)) hl
      have hml : ms.length = es.length := by rw [hperm.length_eq, List.length_map]
      have hin : ∀ m ∈ ms, ∃ e ∈ es, e.1.o = m := fun m hm => by
        obtain ⟨e, he, h⟩ := List.mem_map.mp (hperm.mem_iff.mp hm)
        exact ⟨e, he, h⟩
      have hlx : upd H2 l (.lst (ms.map V.int)) l = some (.lst (ms.map V.int)) := upd_same
      generalize upd H2 l (.lst (ms.map V.int)) = H3 at s3 hlx
      refine ⟨l, rfl, ⟨_, SqL.of hlx⟩, fun D hD => ?_⟩
      refine lc2_flat (ms.map fun m => [V.ref (eOf es m).2.1]) (fun _ => true) (by rw [List.length_map, List.length_map]) hD (SqL.of hlx) (fun _ => rfl) (fun _ _ => rfl) (by rw [flat_one, List.length_map]; omega) (fun i x ys H' R hx hy sm' r' => ?_) (fun i x y ys H' Q' hx hy hyy sm' q' => q' H' (Same.refl H')) (fun i x y ys H' Q' hx hy hyy q' => ⟨_, rfl, q'⟩) fun H' sm' hDl => ?_
      · obtain ⟨m, hm, rfl⟩ := map_get hx
        rw [List.getElem?_map, hm] at hy
        cases hy
        obtain ⟨e, he, rfl⟩ := hin m (List.mem_of_getElem? hm)
        dsimp only at r'
        rw [eOf_at nd he] at r'
        have s5 := s3.trans sm'
        have g := DGet.k (k := Sum.inl e.1.o) (s5 _ _ hd2)
        rw [es_get nd he] at g
        exact ⟨_, rfl, _, rfl, d, _, rfl, g, _, rfl, ⟨_, SqL.of (s5 _ _ (hes e he).1)⟩, r' _ H' (Same.refl H') fun H5 s6 => SqL.of (s6 _ _ (s3 _ _ (hes e he).1))⟩
      · have e1 : ((ms.map fun m => [V.ref (eOf es m).2.1]).flatten.filter fun _ => true) = (ms.map fun m => (eOf es m).2.1).map V.ref := by
          rw [flat_one, List.map_map, List.filter_eq_self.mpr (fun _ _ => rfl)]; rfl
        rw [e1] at hDl
        have s5 := s3.trans sm'
        have inj : ms.Pairwise (· < ·) := by
          have ndm : ms.Nodup := hperm.nodup_iff.mpr nd
          refine (hpw.and ndm).imp fun h => ?_
          obtain ⟨a, b⟩ := h
          omega
        refine k1 D (ms.map fun m => (eOf es m).2.1) (ms.map fun m => (eOf es m).1) H' (sm.trans s5) ?_ hDl (paired_map2 fun m hm => ?_) ?_ fun q => ?_
        · exact sm.free (s3.free hD)
        · obtain ⟨e, he, rfl⟩ := hin m hm
          rw [eOf_at nd he]
          exact (hes e he).2.1.same s5
        · rw [List.pairwise_map]
          refine inj.imp_of_mem fun {x y} hx hy h => ?_
          obtain ⟨e, he, rfl⟩ := hin x hx
          obtain ⟨e', he', rfl⟩ := hin y hy
          rw [eOf_at nd he, eOf_at nd he']; exact h
        · rw [← hmem q]
          constructor
          · intro h
            obtain ⟨m, hm, rfl⟩ := List.mem_map.mp h
            obtain ⟨e, he, rfl⟩ := hin m hm
            rw [eOf_at nd he]; exact List.mem_map.mpr ⟨e, he, rfl⟩
          · intro h
            obtain ⟨e, he, rfl⟩ := List.mem_map.mp h
            exact List.mem_map.mpr ⟨e.1.o, hperm.mem_iff.mpr (List.mem_map.mpr ⟨e, he, rfl⟩), by rw [eOf_at nd he]⟩
end
end Sg

set_option Elab.async false
set_option linter.all false
set_option maxRecDepth 100000
set_option maxHeartbeats 4000000
namespace Sg
open PySem PySem.Spec PyProof.Rows L2
structure BN (mg : Str → Option Value) : Prop where
  len : mg "len" = none
  abs : mg "abs" = none
  int : mg "int" = none
  list : mg "list" = none
  range : mg "range" = none
  tuple : mg "tuple" = none
  sorted : mg "sorted" = none
  any : mg "any" = none
  isi : mg "isinstance" = none
  bool : mg "bool" = none
def TapeQ (K : PySem.W.Frag) (H : Hp) (p q : Addr) : Prop := ∃ (ns : List Int) (i : Nat) (rest seed : Int), H p = some (.lst [.ref q, .int (i : Int), .int rest, .int seed]) ∧ H q = some (.lst (ns.map V.int)) ∧ q ≠ p ∧ 0 ≤ rest ∧ 0 ≤ seed ∧ seed < 2147483647
section
variable {K : PySem.W.Frag} {H H' : Hp} {p q : Addr}
theorem TapeQ.off {xs : List Addr} (h : TapeQ K H p q) (o : Off xs H H') (n1 : p ∉ xs) (n2 : q ∉ xs) : TapeQ K H' p q := by
  obtain ⟨ns, i, rest, seed, h1, h2, h3⟩ := h
  exact ⟨ns, i, rest, seed, o _ _ h1 n1, o _ _ h2 n2, h3⟩
theorem TapeQ.same (h : TapeQ K H p q) (s : Same H H') : TapeQ K H' p q := h.off (Off.of (xs := []) s) (by simp) (by simp)
theorem TapeQ.lst (h : TapeQ K H p q) : ∃ l, H p = some (.lst l) := by
  obtain ⟨ns, i, rest, seed, h1, _⟩ := h
  exact ⟨_, h1⟩
theorem TapeQ.tk (h : TapeQ K H p q) (o : Off [p] H H') : TK H H' := TK.off o fun x hx => by
  rw [List.mem_singleton.mp hx]; exact .inl h.lst
end
def spNext (K : PySem.W.Frag) : Sp := fun vs H Q _ => ∃ (p q : Addr) (many : Int), vs = [.ref p, .int many] ∧ TapeQ K H p q ∧ 0 < many ∧ many < 1073741824 ∧ ∀ r H', 0 ≤ r → r < many → Off [p] H H' → TapeQ K H' p q → Q (.int r) H'
section
variable {P : Program} {wd : World} {K : PySem.W.Frag} {mg : Str → Option Value} {base : Heap} {f f1 : Addr} {fd fd1 : FuncData}
/-- one of a displayed list -/
theorem pickL {K : PySem.W.Frag} {H : Hp} {tp q l2 : Addr} {es : List V} {σ : L2.St} {Q : VK} {j : Nat} (t : TapeQ K H tp q) (hl : H l2 = none) (hpos : 0 < es.length) (hlt : es.length < 1000)
    (k : ∀ z H', z ∈ es → Off [tp] H H' → TapeQ K H' tp q → TK H H' → Q z H') (ht : ∀ (H1 : Hp) (Q1 : List V → Hp → Prop), Q1 [.ref tp, .int (es.length : Nat)] H1 → tCons (tVar j) (tCons (tC (.int (es.length : Nat))) tNil) σ H1 Q1) :
    tOp (rIxL K) (tC (.ref l2)) (tCall (spNext K) [] E0 (tCons (tVar j) (tCons (tC (.int (es.length : Nat))) tNil))) σ (upd H l2 (.lst es)) Q := by
  have s := same_new (o := .lst es) hl
  have hl' : (upd H l2 (.lst es)) l2 = some (.lst es) := upd_same
  generalize upd H l2 (.lst es) = H1 at s hl'
  have t1 := t.same s
  have n : l2 ≠ tp := fun e => by
    obtain ⟨z, hz⟩ := t.lst
    rw [e, hz] at hl; cases hl
  show tCons (tVar j) (tCons (tC (.int (es.length : Nat))) tNil) σ H1 (fun vs H2 => spNext K (vs ++ []) H2 (fun y H3 => rIxL K (.ref l2) y H3 Q) E0)
  refine ht _ _ ?_
  show spNext K [.ref tp, .int (es.length : Nat)] H1 _ _
  refine ⟨tp, q, _, rfl, t1, by omega, by omega, fun r H2 r0 r1 o2 t2 => ?_⟩
  have h2 := o2 _ _ hl' (by simpa using n)
  have o : Off [tp] H H2 := fun b u e m => o2 _ _ (s _ _ e) m
  have hj : r.toNat < es.length := by omega
  refine ⟨l2, _, _, es[r.toNat], rfl, rfl, SqL.of h2, ?_, k _ H2 (List.getElem_mem hj) o t2 ((TK.of s).trans (t1.tk o2))⟩
  have := atI_nat (List.getElem?_eq_getElem hj)
  rw [show ((r.toNat : Nat) : Int) = r by omega] at this
  exact this
theorem scNext : FnScope ["tape", "many", "rest", "cell"] ["tape", "many"] (defScope sNext) := ⟨rfl, rfl, rfl, by decide +kernel, rfl, by decide +kernel, by decide +kernel⟩
theorem ok_next (F : Fun K "_law_next" "_law_next" sNext f fd) (B : BN mg) : FnOk P wd K mg base CX0 1 f fd ["tape", "many"] (spNext K) := by
  refine F.ok scNext (fun vs H Q E h => ?_) (fun cdv A outer s H vs Q E hr h => ?_)
  · obtain ⟨p, q, many, rfl, _⟩ := h
    rfl
  · obtain ⟨p, q, many, rfl, ⟨ns, i, rest, seed, h1, h2, hne, hre, hs0, hs1⟩, hm0, hm1, k⟩ := h
    refine ⟨_, (pss_cons (ps_set (i := 2) scNext.nd rfl (Or.inl rfl) (pe_ix ix_list (pv 0) pe_int (fun _ _ => rfl)))
      (pss_cons (ps_if (pt_cmpR op_gt (pv 2) pe_int (nomark _))
      (pss_cons (ps_asg (pe_op op_fdiv (pv 2) (pv 1)) (pg_sub (pv 0) pe_int set_list))
      (pss_one (ps_ret (pe_op op_mod (pe_callTy call_int1 (by rfl) B.int (by decide +kernel) (pa_cons (pv 2) pa_nil)) (pv 1))))) pss_nil)
      (pss_cons (ps_set (i := 3) scNext.nd rfl (Or.inl rfl) pe_int)
      (Evl.pss_cut (ps_if (pt_cmpR op_lt (pe_ix ix_list (pv 0) pe_int (fun _ _ => rfl)) (pe_callB call_len_seq (by rfl) B.len PySem.boot_len (pa_cons (pe_ix ix_list (pv 0) pe_int (fun _ _ => rfl)) pa_nil)) (nomark _))
      (pss_cons (ps_set (i := 3) scNext.nd rfl (Or.inl rfl) (pe_callB call_abs (by rfl) B.abs (by decide +kernel) (pa_cons (pe_ix ix_list (pe_ix ix_list (pv 0) pe_int (fun _ _ => rfl)) (pe_ix ix_list (pv 0) pe_int (fun _ _ => rfl)) (fun _ _ => rfl)) pa_nil)))
      (pss_one (ps_augS (pv 0) pe_int get_list pe_int ip_add set_list))) pss_nil)
      (pss_cons (ps_if (pt_cmpR op_ge (pv 3) (pe_op op_pow pe_int pe_int) (nomark _))
      (pss_cons (ps_asg (pe_op op_fdiv (pv 3) (pv 1)) (pg_sub (pv 0) pe_int set_list))
      (pss_one (ps_ret (pe_op op_mod (pe_callTy call_int1 (by rfl) B.int (by decide +kernel) (pa_cons (pv 3) pa_nil)) (pv 1))))) pss_nil)
      (pss_cons (ps_asg (pe_op op_mod (pe_callTy call_int1 (by rfl) B.int (by decide +kernel) (pa_cons (pe_op op_add (pe_op op_add (pe_op op_mul (pe_ix ix_list (pv 0) pe_int (fun _ _ => rfl)) pe_int) (pe_op op_mul (pv 3) pe_int)) pe_int) pa_nil)) pe_int) (pg_sub (pv 0) pe_int set_list))
      (pss_one (ps_ret (pe_op op_mod (pe_callTy call_int1 (by rfl) B.int (by decide +kernel) (pa_cons (pe_op op_fdiv (pe_op op_mod (pe_op op_mul (pe_ix ix_list (pv 0) pe_int (fun _ _ => rfl)) pe_int) pe_int) pe_int) pa_nil)) (pv 1)))))))))), ?_⟩
    have keep : ∀ o, Off [p] H (upd H p o) := fun o => Off.upd (by simp)
    have h2' : ∀ o, (upd H p o) q = some (.lst (ns.map V.int)) := fun o => by rw [upd_ne hne]; exact h2
    refine ⟨_, rfl, p, _, _, _, rfl, rfl, SqL.of h1, atI_nat (j := 2) rfl, ?_⟩
    refine ⟨_, rfl, _, _, rfl, rfl, _, rfl, ?_⟩
    by_cases c0 : 0 < rest
    · rw [decide_eq_true c0]
      refine iteT ⟨_, rfl, _, rfl, _, _, rfl, rfl, ⟨hm0, hm1⟩, _, rfl, p, _, _, 2, rfl, rfl, h1, rfl, ?_⟩
      refine ⟨_, rfl, .inl ⟨_, rfl, _, rfl, _, _, rfl, rfl, hm0, ?_⟩⟩
      exact k _ _ (Int.emod_nonneg _ (by omega)) (Int.emod_lt_of_pos _ hm0) (keep _) ⟨ns, i, _, seed, upd_same, h2' _, hne, Int.ediv_nonneg hre (by omega), hs0, hs1⟩
    rw [decide_eq_false c0]
    refine iteF ?_
    have hr0 : rest = 0 := by omega
    subst hr0
    refine ⟨fun σ H' => ∃ (i' : Nat) (c : Int), σ = [some (.ref p), some (.int many), some (.int 0), some (.int c)] ∧ H' = upd H p (.lst [.ref q, .int (i' : Int), .int 0, .int seed]) ∧ 0 ≤ c, ?_, ?_⟩
    · refine ⟨_, rfl, p, _, _, _, rfl, rfl, SqL.of h1, atI_nat (j := 1) rfl, _, rfl, p, _, _, _, rfl, rfl, SqL.of h1, atI_nat (j := 0) rfl, q, _, rfl, .inl (SqL.of h2), _, _, rfl, rfl, _, rfl, ?_⟩
      rw [List.length_map]
      by_cases hi : i < ns.length
      · rw [decide_eq_true (show (i : Int) < (ns.length : Int) by omega)]
        refine iteT ⟨_, rfl, p, _, _, _, rfl, rfl, SqL.of h1, atI_nat (j := 0) rfl, _, rfl, p, _, _, _, rfl, rfl, SqL.of h1, atI_nat (j := 1) rfl, q, _, _, V.int ns[i], rfl, rfl, SqL.of h2, atI_nat (get_map (List.getElem?_eq_getElem hi)), _, rfl, ?_⟩
        refine ⟨_, rfl, p, _, 1, .int (i : Int), rfl, rfl, SqL.of h1, rfl, _, _, rfl, rfl, p, _, _, 1, rfl, rfl, h1, rfl, ?_⟩
        exact ⟨i + 1, _, rfl, rfl, by split <;> omega⟩
      · rw [decide_eq_false (show ¬ (i : Int) < (ns.length : Int) by omega)]
        refine iteF ⟨i, 0, rfl, ?_, by decide⟩
        funext b
        by_cases e : b = p
        · rw [e, upd_same, h1]
        · rw [upd_ne e]
    rintro σ H' ⟨i', c, rfl, rfl, hc0⟩
    refine ⟨_, rfl, _, _, rfl, rfl, ⟨by decide, by decide, by decide⟩, _, _, rfl, rfl, _, rfl, ?_⟩
    refine ite2 (fun _ => ?_) (fun hl => ?_)
    · refine ⟨_, rfl, _, rfl, _, _, rfl, rfl, ⟨hm0, hm1⟩, _, rfl, p, _, _, 2, rfl, rfl, upd_same, rfl, ?_⟩
      rw [upd_upd]
      refine ⟨_, rfl, .inl ⟨_, rfl, _, rfl, _, _, rfl, rfl, hm0, ?_⟩⟩
      exact k _ _ (Int.emod_nonneg _ (by omega)) (Int.emod_lt_of_pos _ hm0) (keep _) ⟨ns, i', _, seed, upd_same, h2' _, hne, Int.ediv_nonneg hc0 (by omega), hs0, hs1⟩
    · have hc1 : c < 10 ^ 18 := by
        have : ¬ ((10 : Int) ^ (18 : Int).toNat ≤ c) := fun z => hl (decide_eq_true z)
        have e : (10 : Int) ^ (18 : Int).toNat = 10 ^ 18 := rfl
        omega
      refine ⟨_, rfl, p, _, _, _, rfl, rfl, SqL.of upd_same, atI_nat (j := 3) rfl, _, _, rfl, rfl, .inl ⟨by omega, by omega⟩, _, rfl, _, _, rfl, rfl, .inr ⟨by decide, by decide⟩, _, _, rfl, rfl, _, _, rfl, rfl, .inl ⟨_, rfl, ?_⟩⟩
      refine ⟨_, _, rfl, rfl, (by show (0 : Int) < 2147483647; decide), _, rfl, p, _, _, 3, rfl, rfl, upd_same, rfl, ?_⟩
      rw [upd_upd]
      refine ⟨_, rfl, p, _, _, _, rfl, rfl, SqL.of upd_same, atI_nat (j := 3) rfl, _, _, rfl, rfl, .inr ⟨by decide, by decide⟩, _, _, rfl, rfl, (by show (0 : Int) < 2147483647; decide), _, _, rfl, rfl, ⟨by decide, by decide⟩, .inl ⟨_, rfl, ?_⟩⟩
      refine ⟨_, rfl, _, _, rfl, rfl, hm0, ?_⟩
      exact k _ _ (Int.emod_nonneg _ (by omega)) (Int.emod_lt_of_pos _ hm0) (keep _) ⟨ns, i', 0, _, upd_same, h2' _, hne, by decide, Int.emod_nonneg _ (by decide), Int.emod_lt_of_pos _ (by decide)⟩
end
end Sg

set_option Elab.async false
set_option linter.all false
set_option maxRecDepth 100000
set_option maxHeartbeats 4000000
namespace Sg
open PySem PySem.Spec PyProof.Rows L2
theorem EffAt.tk {K : PySem.W.Frag} {H H' : Hp} {p : Addr} {e : Ef} (h : EffAt K H p e) (g : tupO e.2 = true) (s : TK H H') : EffAt K H' p e := by
  obtain ⟨t, v, a, b, c⟩ := h
  exact ⟨t, v, s.t _ _ a, s.t _ _ b, dp_tk s _ _ g c⟩
theorem eff_list1f {K : PySem.W.Frag} {σ : L2.St} {H : Hp} {te : TE} {e : Ef} {Q : VK} (h : ∀ R : VK, (∀ p H', Same H H' → EffAt K H' p e → R (.ref p) H') → te σ H R) (q : ∀ l (ps : List Addr) H', Same H H' → H l = Option.none → H' l = some (.lst (ps.map V.ref)) → Paired (EffAt K H') ps [e] → Q (.ref l) H') :
    tLst (tCons te tNil) σ H Q := by
  refine h _ fun p H1 s1 e1 => ⟨by show 1 ≤ sizeLine; decide, fun l hl => ?_⟩
  have s2 := same_new (o := .lst [V.ref p]) hl
  exact q l [p] _ (s1.trans s2) (s1.free hl) upd_same (.cons (e1.same s2) .nil)
theorem eff_new1 {K : PySem.W.Frag} {σ : L2.St} {H : Hp} {te : TE} {e : Ef} {Q : VK} (h : EE K te σ H e) (q : ∀ p l H3, Same H H3 → EffAt K H3 p e → H3 l = Option.none → Q (.ref l) (upd H3 l (.lst [.ref p]))) : tLst (tCons te tNil) σ H Q :=
  h _ fun p H1 s1 e1 => ⟨by show 1 ≤ sizeLine; decide, fun l hl => q p l H1 s1 e1 hl⟩
theorem seqN {K : PySem.W.Frag} {te : TE} {i : Nat} {r : TS} {D : Ends} {σ : L2.St} {H : Hp} {e : Ef} (h : EE K te σ H e) (k : ∀ p l H3, Same H H3 → EffAt K H3 p e → H3 l = Option.none → r D (σ.set i (some (.ref l))) (upd H3 l (.lst [.ref p]))) : tSeq (tAsg (tLst (tCons te tNil)) (gName i)) r D σ H := by
  show tLst (tCons te tNil) σ H (fun v H' => r D (σ.set i (some v)) H')
  exact eff_new1 h k
theorem cut_three {x1 x2 x3 : V} {r : List V} : cutV (x1 :: x2 :: x3 :: r) Option.none (some 3) = [x1, x2, x3] := by
  unfold cutV
  rw [show HT.sIx (x1 :: x2 :: x3 :: r).length 0 none = 0 from HT.sIx_none _ _, show (some (3 : Int)) = some ((3 : Nat) : Int) from rfl, HT.sIx_nat]
  rw [Nat.min_eq_left (by simp only [List.length_cons]; omega)]
  rfl
def spEffB (K : PySem.W.Frag) : Sp := fun vs H Q _ => ∃ (t : Addr) (r : Rc), vs = [.ref t] ∧ RecAt K H t r ∧
  ∀ l (ps : List Addr) H', Same H H' → H l = Option.none → H' l = some (.lst (ps.map V.ref)) → Paired (EffAt K H') ps (effB r.o r.h r.b) → Q (.ref l) H'
section
variable {P : Program} {wd : World} {K : PySem.W.Frag} {mg : Str → Option Value} {base : Heap} {f : Addr} {fd : FuncData}
theorem scLEff : FnScope ["record", "order", "kind", "host", "fields", "found"] ["record"] (defScope sLEffects) := ⟨rfl, rfl, rfl, by decide +kernel, rfl, by decide +kernel, by decide +kernel⟩
theorem ok_leffects (F : Fun K "_law_effects" "_law_effects" sLEffects f fd) : FnOk P wd K mg base CX0 1 f fd ["record"] (spEffB K) := by
  refine F.ok scLEff (fun vs H Q E h => ?_) (fun cdv A outer s H vs Q E hr h => ?_)
  · obtain ⟨t, r, rfl, _⟩ := h
    rfl
  · obtain ⟨t, ⟨o, h, ss, cc, b⟩, rfl, ⟨ys, hs, hd⟩, q⟩ := h
    refine ⟨_, (pss_cons (ps_asg (pe_slice sl_any (pv 0) po_none (po_some pe_int)) (pg_tup (by rfl) (pgs_cons (pg_name (i := 1) scLEff.nd rfl (Or.inl rfl)) (pgs_cons (pg_name (i := 2) scLEff.nd rfl (Or.inl rfl)) (pgs_cons (pg_name (i := 3) scLEff.nd rfl (Or.inl rfl)) L2.pgs_nil)))))
      (pss_cons (ps_set (i := 4) scLEff.nd rfl (Or.inl rfl) (pe_slice sl_any (pv 0) (po_some pe_int) po_none))
      (pss_cons (ps_if (pt_cmpR op_eq (pv 2) pe_str (nomark _))
      (pss_one (ps_ret (pe_lst (pa_cons (pe_tup (pa_cons (pe_tup (pa_cons pe_str (pa_cons (pv 3) pa_nil))) (pa_cons (pe_ix ix_tup (pv 4) pe_int (fun _ _ => rfl)) pa_nil))) pa_nil)))) pss_nil)
      (pss_cons (ps_if (pt_cmpR op_eq (pv 2) pe_str (nomark _))
      (pss_one (ps_ret (pe_lst (pa_cons (pe_tup (pa_cons (pe_tup (pa_cons pe_str (pa_cons (pe_ix ix_tup (pv 4) pe_int (fun _ _ => rfl)) pa_nil))) (pa_cons (pe_ix ix_tup (pv 4) pe_int (fun _ _ => rfl)) pa_nil))) pa_nil)))) pss_nil)
      (pss_cons (ps_if (pt_cmpR op_eq (pv 2) pe_str (nomark _))
      (pss_one (ps_ret (pe_lst (pa_cons (pe_tup (pa_cons (pe_tup (pa_cons pe_str (pa_cons (pe_ix ix_tup (pv 4) pe_int (fun _ _ => rfl)) pa_nil))) (pa_cons (pv 1) pa_nil))) pa_nil)))) pss_nil)
      (pss_cons (ps_if (pt_cmpR op_eq (pv 2) pe_str (nomark _))
      (pss_one (ps_ret (pe_lst (pa_cons (pe_tup (pa_cons (pe_tup (pa_cons pe_str (pa_cons (pe_ix ix_tup (pv 4) pe_int (fun _ _ => rfl)) (pa_cons (pe_ix ix_tup (pv 4) pe_int (fun _ _ => rfl)) pa_nil)))) (pa_cons (pe_ix ix_tup (pv 4) pe_int (fun _ _ => rfl)) pa_nil))) pa_nil)))) pss_nil)
      (pss_cons (ps_if (pt_cmpR op_eq (pv 2) pe_str (nomark _))
      (pss_one (ps_ret (pe_lst (pa_cons (pe_tup (pa_cons (pe_tup (pa_cons pe_str (pa_cons (pe_ix ix_tup (pv 4) pe_int (fun _ _ => rfl)) (pa_cons (pe_ix ix_tup (pv 4) pe_int (fun _ _ => rfl)) pa_nil)))) (pa_cons pe_non pa_nil))) pa_nil)))) pss_nil)
      (pss_cons (ps_if (pt_cmpR op_eq (pv 2) pe_str (nomark _))
      (pss_one (ps_ret (pe_lst (pa_cons (pe_tup (pa_cons (pe_tup (pa_cons pe_str (pa_cons (pe_ix ix_tup (pv 4) pe_int (fun _ _ => rfl)) (pa_cons (pv 1) pa_nil)))) (pa_cons (pv 1) pa_nil))) pa_nil)))) pss_nil)
      (pss_cons (ps_if (pt_cmpR op_eq (pv 2) pe_str (nomark _))
      (pss_one (ps_ret (pe_lst (pa_cons (pe_tup (pa_cons (pe_tup (pa_cons pe_str (pa_cons (pe_ix ix_tup (pv 4) pe_int (fun _ _ => rfl)) (pa_cons (pe_ix ix_tup (pv 4) pe_int (fun _ _ => rfl)) pa_nil)))) (pa_cons pe_non pa_nil))) pa_nil)))) pss_nil)
      (pss_cons (ps_if (pt_cmpR op_eq (pv 2) pe_str (nomark _))
      (pss_one (ps_ret (pe_lst (pa_cons (pe_tup (pa_cons (pe_tup (pa_cons pe_str (pa_cons (pe_ix ix_tup (pv 4) pe_int (fun _ _ => rfl)) (pa_cons (pv 3) pa_nil)))) (pa_cons (pv 1) pa_nil))) pa_nil)))) pss_nil)
      (pss_cons (ps_if (pt_cmpR op_eq (pv 2) pe_str (nomark _))
      (pss_one (ps_ret (pe_lst (pa_cons (pe_tup (pa_cons (pe_tup (pa_cons pe_str (pa_cons (pe_ix ix_tup (pv 4) pe_int (fun _ _ => rfl)) pa_nil))) (pa_cons (pe_tup (pa_cons (pv 3) (pa_cons (pe_ix ix_tup (pv 4) pe_int (fun _ _ => rfl)) pa_nil))) pa_nil))) pa_nil)))) pss_nil)
      (pss_cons (ps_if (pt_cmpR op_eq (pv 2) pe_str (nomark _))
      (pss_one (ps_ret (pe_lst (pa_cons (pe_tup (pa_cons (pe_tup (pa_cons pe_str (pa_cons (pe_ix ix_tup (pv 4) pe_int (fun _ _ => rfl)) pa_nil))) (pa_cons pe_non pa_nil))) pa_nil)))) pss_nil)
      (pss_cons (ps_if (pt_cmpR op_eq (pv 2) pe_str (nomark _))
      (pss_cons (ps_set (i := 5) scLEff.nd rfl (Or.inl rfl) (pe_lst (pa_cons (pe_tup (pa_cons (pe_tup (pa_cons pe_str (pa_cons (pe_ix ix_tup (pv 4) pe_int (fun _ _ => rfl)) (pa_cons (pe_ix ix_tup (pv 4) pe_int (fun _ _ => rfl)) pa_nil)))) (pa_cons pe_non pa_nil))) pa_nil)))
      (Evl.pss_cut (ps_if (pt_cmpR op_notN (pe_ix ix_tup (pv 4) pe_int (fun _ _ => rfl)) pe_non (nomark _))
      (pss_one (ps_expr (pe_bm PySem.F.plainAttrs_list PySem.F.slot_list_append PySem.F.type_list_append mt_append (pv 5) (pa_cons (pe_tup (pa_cons (pe_tup (pa_cons pe_str (pa_cons (pe_ix ix_tup (pv 4) pe_int (fun _ _ => rfl)) pa_nil))) (pa_cons (pe_tup (pa_cons (pv 3) (pa_cons (pe_ix ix_tup (pv 4) pe_int (fun _ _ => rfl)) pa_nil))) pa_nil))) pa_nil)))) pss_nil)
      (pss_one (ps_ret (pv 5))))) pss_nil)
      (pss_cons (ps_set (i := 5) scLEff.nd rfl (Or.inl rfl) (pe_lst (pa_cons (pe_tup (pa_cons (pe_tup (pa_cons pe_str (pa_cons (pe_ix ix_tup (pv 4) pe_int (fun _ _ => rfl)) (pa_cons (pv 3) pa_nil)))) (pa_cons pe_non pa_nil))) pa_nil)))
      (Evl.pss_cut (ps_if (pt_val (pe_ix ix_tup (pv 4) pe_int (fun _ _ => rfl)))
      (pss_one (ps_expr (pe_bm PySem.F.plainAttrs_list PySem.F.slot_list_append PySem.F.type_list_append mt_append (pv 5) (pa_cons (pe_tup (pa_cons (pe_tup (pa_cons pe_str (pa_cons (pe_ix ix_tup (pv 4) pe_int (fun _ _ => rfl)) pa_nil))) (pa_cons pe_non pa_nil))) pa_nil)))) pss_nil)
      (pss_one (ps_ret (pv 5)))))))))))))))))), ?_⟩
    refine ⟨_, rfl, 3, rfl, t, _, rfl, hs, fun p H1 s1 hp => ?_⟩
    rw [show cutV (V.int o :: .str (kindS b) :: .int h :: .int ss :: .int cc :: ys) none (some 3) = _ from cut_three] at hp
    refine ⟨p, _, rfl, hp, rfl, _, _, rfl, _, _, rfl, _, _, rfl, rfl, ?_⟩
    refine ⟨_, rfl, 5, rfl, t, _, rfl, SqT_same s1 hs, fun pf H2 s2 hpf => ?_⟩
    rw [show cutV (V.int o :: .str (kindS b) :: .int h :: .int ss :: .int cc :: ys) (some 5) none = _ from cut_tail] at hpf
    have hd2 := dpAll_same (s1.trans s2) _ _ hd
    have s12 := s1.trans s2
    dsimp only [gName]
    have fin : ∀ (es : List Ef) (H3 : Hp), Same H2 H3 → effB o h b = es → ∀ l (ps : List Addr) H', Same H3 H' → H3 l = Option.none → H' l = some (.lst (ps.map V.ref)) → Paired (EffAt K H') ps es → Q (.ref l) H' := fun es H3 s3 e l ps H' s' fr hl pr => q l ps H' (s12.trans (s3.trans s')) (s12.free (s3.free fr)) hl (by
      show Paired (EffAt K H') ps (effB o h b)
      rw [e]; exact pr)
    have R2 := Same.refl H2
    clear q
    cases b with
    | mark d =>
      obtain ⟨x0, r0, rfl, e0, b0⟩ := dpAll_cons hd2
      obtain rfl := dpAll_nil b0
      refine ifStrT rfl ?_
      exact eff_list1f (e := ([.inr "told", .inl h], d)) (fun R r => eff_one (k := [.inr "told", .inl h]) (d := d) (by show 2 ≤ 3; decide) (fun S z => ⟨_, rfl, z⟩) (fun H' S sm z => ⟨_, rfl, pf, _, _, _, rfl, rfl, (SqT_same sm hpf), atI_nat (j := 0) rfl, z _ _ (Same.refl _) (dp_same sm _ _ e0)⟩) r) (fin _ _ R2 rfl)
    | make n z =>
      obtain ⟨x0, r0, rfl, e0, b0⟩ := dpAll_cons hd2
      obtain rfl := dp_int e0
      obtain ⟨x1, r1, rfl, e1, b1⟩ := dpAll_cons b0
      obtain rfl := dp_int e1
      obtain rfl := dpAll_nil b1
      refine ifStrF rfl (by dsimp only [kindS]; decide) ?_
      refine ifStrT rfl ?_
      exact eff_list1f (e := ([.inr "space", .inl n], .int z)) (fun R r => eff_one (k := [.inr "space", .inl n]) (d := .int z) (by show 2 ≤ 3; decide) (fun S z => ⟨_, rfl, pf, _, _, _, rfl, rfl, hpf, atI_nat (j := 0) rfl, z⟩) (fun H' S sm z => ⟨_, rfl, pf, _, _, _, rfl, rfl, (SqT_same sm hpf), atI_nat (j := 1) rfl, z _ _ (Same.refl _) (.int _)⟩) r) (fin _ _ R2 rfl)
    | remove n =>
      obtain ⟨x0, r0, rfl, e0, b0⟩ := dpAll_cons hd2
      obtain rfl := dp_int e0
      obtain rfl := dpAll_nil b0
      refine ifStrF rfl (by dsimp only [kindS]; decide) ?_
      refine ifStrF rfl (by dsimp only [kindS]; decide) ?_
      refine ifStrT rfl ?_
      exact eff_list1f (e := ([.inr "gone", .inl n], .int o)) (fun R r => eff_one (k := [.inr "gone", .inl n]) (d := .int o) (by show 2 ≤ 3; decide) (fun S z => ⟨_, rfl, pf, _, _, _, rfl, rfl, hpf, atI_nat (j := 0) rfl, z⟩) (fun H' S sm z => ⟨_, rfl, z _ _ (Same.refl _) (.int _)⟩) r) (fin _ _ R2 rfl)
    | write n pl v =>
      obtain ⟨x0, r0, rfl, e0, b0⟩ := dpAll_cons hd2
      obtain rfl := dp_int e0
      obtain ⟨x1, r1, rfl, e1, b1⟩ := dpAll_cons b0
      obtain rfl := dp_int e1
      obtain ⟨x2, r2, rfl, e2, b2⟩ := dpAll_cons b1
      obtain rfl := dp_int e2
      obtain rfl := dpAll_nil b2
      refine ifStrF rfl (by dsimp only [kindS]; decide) ?_
      refine ifStrF rfl (by dsimp only [kindS]; decide) ?_
      refine ifStrF rfl (by dsimp only [kindS]; decide) ?_
      refine ifStrT rfl ?_
      exact eff_list1f (e := ([.inr "place", .inl n, .inl pl], .int v)) (fun R r => eff_one (k := [.inr "place", .inl n, .inl pl]) (d := .int v) (by show 3 ≤ 3; decide) (fun S z => ⟨_, rfl, pf, _, _, _, rfl, rfl, hpf, atI_nat (j := 0) rfl, _, rfl, pf, _, _, _, rfl, rfl, hpf, atI_nat (j := 1) rfl, z⟩) (fun H' S sm z => ⟨_, rfl, pf, _, _, _, rfl, rfl, (SqT_same sm hpf), atI_nat (j := 2) rfl, z _ _ (Same.refl _) (.int _)⟩) r) (fin _ _ R2 rfl)
    | trim n pl =>
      obtain ⟨x0, r0, rfl, e0, b0⟩ := dpAll_cons hd2
      obtain rfl := dp_int e0
      obtain ⟨x1, r1, rfl, e1, b1⟩ := dpAll_cons b0
      obtain rfl := dp_int e1
      obtain rfl := dpAll_nil b1
      refine ifStrF rfl (by dsimp only [kindS]; decide) ?_
      refine ifStrF rfl (by dsimp only [kindS]; decide) ?_
      refine ifStrF rfl (by dsimp only [kindS]; decide) ?_
      refine ifStrF rfl (by dsimp only [kindS]; decide) ?_
      refine ifStrT rfl ?_
      exact eff_list1f (e := ([.inr "place", .inl n, .inl pl], .none)) (fun R r => eff_one (k := [.inr "place", .inl n, .inl pl]) (d := .none) (by show 3 ≤ 3; decide) (fun S z => ⟨_, rfl, pf, _, _, _, rfl, rfl, hpf, atI_nat (j := 0) rfl, _, rfl, pf, _, _, _, rfl, rfl, hpf, atI_nat (j := 1) rfl, z⟩) (fun H' S sm z => z _ _ (Same.refl _) .non) r) (fin _ _ R2 rfl)
    | snap n =>
      obtain ⟨x0, r0, rfl, e0, b0⟩ := dpAll_cons hd2
      obtain rfl := dp_int e0
      obtain rfl := dpAll_nil b0
      refine ifStrF rfl (by dsimp only [kindS]; decide) ?_
      refine ifStrF rfl (by dsimp only [kindS]; decide) ?_
      refine ifStrF rfl (by dsimp only [kindS]; decide) ?_
      refine ifStrF rfl (by dsimp only [kindS]; decide) ?_
      refine ifStrF rfl (by dsimp only [kindS]; decide) ?_
      refine ifStrT rfl ?_
      exact eff_list1f (e := ([.inr "snap", .inl n, .inl o], .int o)) (fun R r => eff_one (k := [.inr "snap", .inl n, .inl o]) (d := .int o) (by show 3 ≤ 3; decide) (fun S z => ⟨_, rfl, pf, _, _, _, rfl, rfl, hpf, atI_nat (j := 0) rfl, _, rfl, z⟩) (fun H' S sm z => ⟨_, rfl, z _ _ (Same.refl _) (.int _)⟩) r) (fin _ _ R2 rfl)
    | drop n sn =>
      obtain ⟨x0, r0, rfl, e0, b0⟩ := dpAll_cons hd2
      obtain rfl := dp_int e0
      obtain ⟨x1, r1, rfl, e1, b1⟩ := dpAll_cons b0
      obtain rfl := dp_int e1
      obtain rfl := dpAll_nil b1
      refine ifStrF rfl (by dsimp only [kindS]; decide) ?_
      refine ifStrF rfl (by dsimp only [kindS]; decide) ?_
      refine ifStrF rfl (by dsimp only [kindS]; decide) ?_
      refine ifStrF rfl (by dsimp only [kindS]; decide) ?_
      refine ifStrF rfl (by dsimp only [kindS]; decide) ?_
      refine ifStrF rfl (by dsimp only [kindS]; decide) ?_
      refine ifStrT rfl ?_
      exact eff_list1f (e := ([.inr "snap", .inl n, .inl sn], .none)) (fun R r => eff_one (k := [.inr "snap", .inl n, .inl sn]) (d := .none) (by show 3 ≤ 3; decide) (fun S z => ⟨_, rfl, pf, _, _, _, rfl, rfl, hpf, atI_nat (j := 0) rfl, _, rfl, pf, _, _, _, rfl, rfl, hpf, atI_nat (j := 1) rfl, z⟩) (fun H' S sm z => z _ _ (Same.refl _) .non) r) (fin _ _ R2 rfl)
    | register n =>
      obtain ⟨x0, r0, rfl, e0, b0⟩ := dpAll_cons hd2
      obtain rfl := dp_int e0
      obtain rfl := dpAll_nil b0
      refine ifStrF rfl (by dsimp only [kindS]; decide) ?_
      refine ifStrF rfl (by dsimp only [kindS]; decide) ?_
      refine ifStrF rfl (by dsimp only [kindS]; decide) ?_
      refine ifStrF rfl (by dsimp only [kindS]; decide) ?_
      refine ifStrF rfl (by dsimp only [kindS]; decide) ?_
      refine ifStrF rfl (by dsimp only [kindS]; decide) ?_
      refine ifStrF rfl (by dsimp only [kindS]; decide) ?_
      refine ifStrT rfl ?_
      exact eff_list1f (e := ([.inr "key", .inl n, .inl h], .int o)) (fun R r => eff_one (k := [.inr "key", .inl n, .inl h]) (d := .int o) (by show 3 ≤ 3; decide) (fun S z => ⟨_, rfl, pf, _, _, _, rfl, rfl, hpf, atI_nat (j := 0) rfl, _, rfl, z⟩) (fun H' S sm z => ⟨_, rfl, z _ _ (Same.refl _) (.int _)⟩) r) (fin _ _ R2 rfl)
    | reserve n w =>
      obtain ⟨x0, r0, rfl, e0, b0⟩ := dpAll_cons hd2
      obtain rfl := dp_int e0
      obtain ⟨x1, r1, rfl, e1, b1⟩ := dpAll_cons b0
      obtain rfl := dp_strv e1
      obtain rfl := dpAll_nil b1
      refine ifStrF rfl (by dsimp only [kindS]; decide) ?_
      refine ifStrF rfl (by dsimp only [kindS]; decide) ?_
      refine ifStrF rfl (by dsimp only [kindS]; decide) ?_
      refine ifStrF rfl (by dsimp only [kindS]; decide) ?_
      refine ifStrF rfl (by dsimp only [kindS]; decide) ?_
      refine ifStrF rfl (by dsimp only [kindS]; decide) ?_
      refine ifStrF rfl (by dsimp only [kindS]; decide) ?_
      refine ifStrF rfl (by dsimp only [kindS]; decide) ?_
      refine ifStrT rfl ?_
      exact eff_list1f (e := ([.inr "hold", .inl n], .tuple [.int h, .str w])) (fun R r => eff_one (k := [.inr "hold", .inl n]) (d := .tuple [.int h, .str w]) (by show 2 ≤ 3; decide) (fun S z => ⟨_, rfl, pf, _, _, _, rfl, rfl, hpf, atI_nat (j := 0) rfl, z⟩) (fun H' S sm z => ⟨_, rfl, _, rfl, pf, _, _, _, rfl, rfl, (SqT_same sm hpf), atI_nat (j := 1) rfl, by show 2 ≤ sizeLine; decide, fun u hu => z _ _ (same_new hu) (.tup (SqT.of upd_same) (.cons (.int _) (.cons (.str _) .nil)))⟩) r) (fin _ _ R2 rfl)
    | release n =>
      obtain ⟨x0, r0, rfl, e0, b0⟩ := dpAll_cons hd2
      obtain rfl := dp_int e0
      obtain rfl := dpAll_nil b0
      refine ifStrF rfl (by dsimp only [kindS]; decide) ?_
      refine ifStrF rfl (by dsimp only [kindS]; decide) ?_
      refine ifStrF rfl (by dsimp only [kindS]; decide) ?_
      refine ifStrF rfl (by dsimp only [kindS]; decide) ?_
      refine ifStrF rfl (by dsimp only [kindS]; decide) ?_
      refine ifStrF rfl (by dsimp only [kindS]; decide) ?_
      refine ifStrF rfl (by dsimp only [kindS]; decide) ?_
      refine ifStrF rfl (by dsimp only [kindS]; decide) ?_
      refine ifStrF rfl (by dsimp only [kindS]; decide) ?_
      refine ifStrT rfl ?_
      exact eff_list1f (e := ([.inr "hold", .inl n], .none)) (fun R r => eff_one (k := [.inr "hold", .inl n]) (d := .none) (by show 2 ≤ 3; decide) (fun S z => ⟨_, rfl, pf, _, _, _, rfl, rfl, hpf, atI_nat (j := 0) rfl, z⟩) (fun H' S sm z => z _ _ (Same.refl _) .non) r) (fin _ _ R2 rfl)
    | preempt n vi w =>
      obtain ⟨x0, r0, rfl, e0, b0⟩ := dpAll_cons hd2
      obtain rfl := dp_int e0
      obtain ⟨x1, r1, rfl, e1, b1⟩ := dpAll_cons b0
      obtain rfl := dp_int e1
      obtain ⟨x2, r2, rfl, e2, b2⟩ := dpAll_cons b1
      obtain rfl := dpAll_nil b2
      refine ifStrF rfl (by dsimp only [kindS]; decide) ?_
      refine ifStrF rfl (by dsimp only [kindS]; decide) ?_
      refine ifStrF rfl (by dsimp only [kindS]; decide) ?_
      refine ifStrF rfl (by dsimp only [kindS]; decide) ?_
      refine ifStrF rfl (by dsimp only [kindS]; decide) ?_
      refine ifStrF rfl (by dsimp only [kindS]; decide) ?_
      refine ifStrF rfl (by dsimp only [kindS]; decide) ?_
      refine ifStrF rfl (by dsimp only [kindS]; decide) ?_
      refine ifStrF rfl (by dsimp only [kindS]; decide) ?_
      refine ifStrF rfl (by dsimp only [kindS]; decide) ?_
      refine ifStrT rfl ?_
      refine seqN (K := K) (e := ([.inr "key", .inl n, .inl vi], .none)) (EE.of (by show 3 ≤ 3; decide) (fun S z => ⟨_, rfl, pf, _, _, _, rfl, rfl, hpf, atI_nat (j := 0) rfl, _, rfl, pf, _, _, _, rfl, rfl, hpf, atI_nat (j := 1) rfl, z⟩) (fun H' S sm z => z _ _ (Same.refl _) .non)) fun p3 l0 H3 s3 ea hl0 => ?_
      have s4 := same_new (o := .lst [V.ref p3]) hl0
      have h0 : (upd H3 l0 (.lst [V.ref p3])) l0 = some (.lst [V.ref p3]) := upd_same
      generalize upd H3 l0 (.lst [V.ref p3]) = H4 at s4 h0
      have s24 := s3.trans s4
      refine ⟨fun σ H' => ∃ ps : List Addr, σ = [some (.ref t), some (.int o), some (.str "preempt"), some (.int h), some (.ref pf), some (.ref l0)] ∧ Same H2 H' ∧ H' l0 = some (.lst (ps.map V.ref)) ∧ Paired (EffAt K H') ps (effB o h (.preempt n vi w)), ?_, ?_⟩
      · refine ⟨_, rfl, pf, _, _, _, rfl, rfl, (SqT_same s24 hpf), atI_nat (j := 2) rfl, rfl, _, rfl, ?_⟩
        cases w with
        | none =>
          obtain rfl := dp_none e2
          exact iteF ⟨[p3], rfl, s24, h0, .cons (ea.same s4) .nil⟩
        | some w =>
          obtain rfl := dp_strv e2
          refine iteT ⟨_, rfl, .inl ⟨rfl, _, SqL.of h0⟩, ?_⟩
          refine eff_one (K := K) (k := [.inr "hold", .inl n]) (d := .tuple [.int h, .str w]) (by show 2 ≤ 3; decide) (fun S z => ⟨_, rfl, pf, _, _, _, rfl, rfl, (SqT_same s24 hpf), atI_nat (j := 0) rfl, z⟩) (fun H' S sm z => ⟨_, rfl, _, rfl, pf, _, _, _, rfl, rfl, (SqT_same (s24.trans sm) hpf), atI_nat (j := 2) rfl, by show 2 ≤ sizeLine; decide, fun u hu => z _ _ (same_new hu) (.tup (SqT.of upd_same) (.cons (.int _) (.cons (.str _) .nil)))⟩) fun p5 H5 s5 eb => ?_
          have h5 := s5 _ _ h0
          refine nil_ ⟨l0, [V.ref p3], _, rfl, rfl, h5, by show 1 < sizeLine; decide, ?_⟩
          have k6 : TK H5 (upd H5 l0 (.lst ([V.ref p3] ++ [V.ref p5]))) := TK.off (xs := [l0]) (Off.upd (by simp)) fun x hx => by rw [List.mem_singleton.mp hx]; exact .inl ⟨_, h5⟩
          refine ⟨[p3, p5], rfl, fun b u e => ?_, upd_same, .cons (((ea.same s4).same s5).tk rfl k6) (.cons (eb.tk rfl k6) .nil)⟩
          rw [upd_ne (ne_of_none (s3 _ _ e) hl0)]; exact s5 _ _ (s24 _ _ e)
      · rintro σ H' ⟨ps, rfl, s', hl, pr⟩
        exact ⟨_, rfl, fin _ _ R2 rfl l0 ps H' s' (s3.free hl0) hl pr⟩
    | leave n hb =>
      obtain ⟨x0, r0, rfl, e0, b0⟩ := dpAll_cons hd2
      obtain rfl := dp_int e0
      obtain ⟨x1, r1, rfl, e1, b1⟩ := dpAll_cons b0
      obtain rfl := dp_bool e1
      obtain rfl := dpAll_nil b1
      refine ifStrF rfl (by dsimp only [kindS]; decide) ?_
      refine ifStrF rfl (by dsimp only [kindS]; decide) ?_
      refine ifStrF rfl (by dsimp only [kindS]; decide) ?_
      refine ifStrF rfl (by dsimp only [kindS]; decide) ?_
      refine ifStrF rfl (by dsimp only [kindS]; decide) ?_
      refine ifStrF rfl (by dsimp only [kindS]; decide) ?_
      refine ifStrF rfl (by dsimp only [kindS]; decide) ?_
      refine ifStrF rfl (by dsimp only [kindS]; decide) ?_
      refine ifStrF rfl (by dsimp only [kindS]; decide) ?_
      refine ifStrF rfl (by dsimp only [kindS]; decide) ?_
      refine ifStrF rfl (by dsimp only [kindS]; decide) ?_
      refine seqN (K := K) (e := ([.inr "key", .inl n, .inl h], .none)) (EE.of (by show 3 ≤ 3; decide) (fun S z => ⟨_, rfl, pf, _, _, _, rfl, rfl, hpf, atI_nat (j := 0) rfl, _, rfl, z⟩) (fun H' S sm z => z _ _ (Same.refl _) .non)) fun p3 l0 H3 s3 ea hl0 => ?_
      have s4 := same_new (o := .lst [V.ref p3]) hl0
      have h0 : (upd H3 l0 (.lst [V.ref p3])) l0 = some (.lst [V.ref p3]) := upd_same
      generalize upd H3 l0 (.lst [V.ref p3]) = H4 at s4 h0
      have s24 := s3.trans s4
      refine ⟨fun σ H' => ∃ ps : List Addr, σ = [some (.ref t), some (.int o), some (.str "leave"), some (.int h), some (.ref pf), some (.ref l0)] ∧ Same H2 H' ∧ H' l0 = some (.lst (ps.map V.ref)) ∧ Paired (EffAt K H') ps (effB o h (.leave n hb)), ?_, ?_⟩
      · refine ⟨_, rfl, pf, _, _, _, rfl, rfl, (SqT_same s24 hpf), atI_nat (j := 1) rfl, hb, rfl, ?_⟩
        cases hb with
        | false => exact iteF ⟨[p3], rfl, s24, h0, .cons (ea.same s4) .nil⟩
        | true =>
          refine iteT ⟨_, rfl, .inl ⟨rfl, _, SqL.of h0⟩, ?_⟩
          refine eff_one (K := K) (k := [.inr "hold", .inl n]) (d := .none) (by show 2 ≤ 3; decide) (fun S z => ⟨_, rfl, pf, _, _, _, rfl, rfl, (SqT_same s24 hpf), atI_nat (j := 0) rfl, z⟩) (fun H' S sm z => z _ _ (Same.refl _) .non) fun p5 H5 s5 eb => ?_
          have h5 := s5 _ _ h0
          refine nil_ ⟨l0, [V.ref p3], _, rfl, rfl, h5, by show 1 < sizeLine; decide, ?_⟩
          have k6 : TK H5 (upd H5 l0 (.lst ([V.ref p3] ++ [V.ref p5]))) := TK.off (xs := [l0]) (Off.upd (by simp)) fun x hx => by rw [List.mem_singleton.mp hx]; exact .inl ⟨_, h5⟩
          refine ⟨[p3, p5], rfl, fun b u e => ?_, upd_same, .cons (((ea.same s4).same s5).tk rfl k6) (.cons (eb.tk rfl k6) .nil)⟩
          rw [upd_ne (ne_of_none (s3 _ _ e) hl0)]; exact s5 _ _ (s24 _ _ e)
      · rintro σ H' ⟨ps, rfl, s', hl, pr⟩
        exact ⟨_, rfl, fin _ _ R2 rfl l0 ps H' s' (s3.free hl0) hl pr⟩
end
end Sg

set_option Elab.async false
set_option linter.all false
set_option maxRecDepth 100000
set_option maxHeartbeats 4000000
namespace Sg
open PySem PySem.Spec PyProof.Rows L2
/-! ### topics, as data -/
def keyD : Key → PyData
  | .inl i => .int i
  | .inr s => .str s
def topD (k : List Key) : PyData := .tuple (k.map keyD)
theorem keyD_eqv {a b : Key} : PyData.eqv (keyD a) (keyD b) = decide (a = b) := by
  cases a with
  | inl i =>
    cases b with
    | inl j =>
      show PyData.eqv (.int i) (.int j) = _
      simp only [PyData.eqv]
      by_cases h : i = j <;> simp [h]
    | inr t => show PyData.eqv (.int i) (.str t) = _; simp [PyData.eqv]
  | inr s =>
    cases b with
    | inl j => show PyData.eqv (.str s) (.int j) = _; simp [PyData.eqv]
    | inr t =>
      show PyData.eqv (.str s) (.str t) = _
      simp only [PyData.eqv]
      by_cases h : s = t <;> simp [h]
theorem keyD_all : ∀ {a b : List Key}, PyData.eqvAll (a.map keyD) (b.map keyD) = decide (a = b)
  | [], [] => by simp [PyData.eqvAll]
  | [], _ :: _ => by simp [PyData.eqvAll]
  | _ :: _, [] => by simp [PyData.eqvAll]
  | x :: a, y :: b => by
    simp only [List.map_cons, PyData.eqvAll, keyD_eqv, keyD_all (a := a) (b := b), List.cons.injEq, Bool.decide_and]
theorem topD_eqv {a b : List Key} : PyData.eqv (topD a) (topD b) = decide (a = b) := by
  unfold topD
  simp only [PyData.eqv, keyD_all]
def KOk (k : List Key) : Prop := ∀ x ∈ k, ∀ s, x = .inr s → PyData.strOk s = true
theorem keys_lay : ∀ {k : List Key}, KOk k → tupOs (k.map keyD) = true ∧ PyData.canLayAll0 (k.map keyD) = true ∧ PyData.depthAll (k.map keyD) = 0
  | [], _ => ⟨rfl, by simp [PyData.canLayAll0], by simp [PyData.depthAll]⟩
  | x :: k, h => by
    obtain ⟨i1, i2, i3⟩ := keys_lay (k := k) fun y hy => h y (List.mem_cons_of_mem _ hy)
    have hx := h x List.mem_cons_self
    cases x with
    | inl i => exact ⟨by simp [keyD, tupOs, tupO, i1], by simp [keyD, PyData.canLayAll0, PyData.canLay0, i2], by simp [keyD, PyData.depthAll, PyData.depth, i3]⟩
    | inr s => exact ⟨by simp [keyD, tupOs, tupO, i1], by simp [keyD, PyData.canLayAll0, PyData.canLay0, i2, hx s rfl], by simp [keyD, PyData.depthAll, PyData.depth, i3]⟩
theorem topD_g {k : List Key} (h : KOk k) : GD 1 (topD k) := by
  obtain ⟨i1, i2, i3⟩ := keys_lay h
  exact ⟨by simp [topD, tupO, i1], by simp [topD, PyData.canLay0, i2], by simp [topD, PyData.depth, i3]⟩
def TopAt (K : PySem.W.Frag) (H : Hp) (t : Addr) (k : List Key) : Prop := SqT K H t (k.map kV)
theorem keys_dp {K : PySem.W.Frag} {H : Hp} : ∀ {k : List Key}, DpAll K H (k.map kV) (k.map keyD)
  | [] => .nil
  | .inl i :: _ => .cons (.int i) keys_dp
  | .inr s :: _ => .cons (.str s) keys_dp
theorem TopAt.dp {K : PySem.W.Frag} {H : Hp} {t : Addr} {k : List Key} (h : TopAt K H t k) : Dp K H (.ref t) (topD k) := .tup h keys_dp
theorem effB_k {o h : Int} {b : Bd} : ∀ e ∈ effB o h b, KOk e.1 := by
  have w : ∀ s ∈ (["told", "space", "gone", "place", "snap", "key", "hold"] : List Str), PyData.strOk s = true := by decide +kernel
  have one : ∀ {s : Str} {r : List Key}, s ∈ (["told", "space", "gone", "place", "snap", "key", "hold"] : List Str) → (∀ x ∈ r, ∃ i, x = Sum.inl i) → KOk (.inr s :: r) := by
    intro s r hs hr x hx t ht
    rcases List.mem_cons.mp hx with rfl | hx
    · cases ht; exact w _ hs
    · obtain ⟨i, rfl⟩ := hr x hx; cases ht
  intro e he
  cases b with
  | leave n hb => cases hb <;> simp only [effB, List.mem_cons, List.not_mem_nil, or_false] at he <;> (try rcases he with rfl | rfl) <;> (try subst he) <;> exact one (by decide) (by simp)
  | preempt n v w => cases w <;> simp only [effB, List.mem_cons, List.not_mem_nil, or_false] at he <;> (try rcases he with rfl | rfl) <;> (try subst he) <;> exact one (by decide) (by simp)
  | _ => simp only [effB, List.mem_cons, List.not_mem_nil, or_false] at he; subst he; exact one (by decide) (by simp)
theorem effB_t {r : Rc} (g : RGood r) : ∀ e ∈ effB r.o r.h r.b, tupO e.2 = true := by
  intro e he
  obtain ⟨o, h, s, c, b⟩ := r
  cases b with
  | mark d =>
    simp only [effB, List.mem_cons, List.not_mem_nil, or_false] at he
    subst he
    have := g.t
    simpa [fldD, tupOs] using this
  | leave n hb => cases hb <;> simp only [effB, List.mem_cons, List.not_mem_nil, or_false] at he <;> (try rcases he with rfl | rfl) <;> (try subst he) <;> rfl
  | preempt n v w => cases w <;> simp only [effB, List.mem_cons, List.not_mem_nil, or_false] at he <;> (try rcases he with rfl | rfl) <;> (try subst he) <;> rfl
  | _ => simp only [effB, List.mem_cons, List.not_mem_nil, or_false] at he; subst he; rfl
theorem effB_len {o h : Int} {b : Bd} : (effB o h b).length ≤ 2 := by
  cases b with
  | leave n hb => cases hb <;> simp [effB]
  | preempt n v w => cases w <;> simp [effB]
  | _ => simp [effB]
/-- one more behind a list of one's own -/
theorem push {H Hx : Hp} {rl p : Addr} {xs : List V} {ob : HO} (sm : Same H Hx) (hn : H rl = Option.none) (hl : Hx rl = some (.lst xs)) (hp : Hx p = Option.none) :
    TK Hx (upd (upd Hx p ob) rl (.lst (xs ++ [.ref p]))) ∧ Same H (upd (upd Hx p ob) rl (.lst (xs ++ [.ref p]))) ∧ (upd (upd Hx p ob) rl (.lst (xs ++ [.ref p]))) rl = some (.lst (xs ++ [.ref p])) ∧ (upd (upd Hx p ob) rl (.lst (xs ++ [.ref p]))) p = some ob ∧
    ∀ b u, Hx b = some u → b ≠ rl → (upd (upd Hx p ob) rl (.lst (xs ++ [.ref p]))) b = some u := by
  have s1 := same_new (o := ob) hp
  have npr : p ≠ rl := fun e => by rw [e, hl] at hp; cases hp
  refine ⟨(TK.of s1).trans (TK.off (xs := [rl]) (Off.upd (by simp)) fun x hx => by rw [List.mem_singleton.mp hx]; exact .inl ⟨_, s1 _ _ hl⟩), fun b u e => ?_, upd_same, by rw [upd_ne npr, upd_same], fun b u e n => by rw [upd_ne n]; exact s1 _ _ e⟩
  rw [upd_ne (ne_of_none e hn)]; exact s1 _ _ (sm _ _ e)
/-! ### the rows of a topic -/
abbrev Rw := Int × PyData
def RowAt (K : PySem.W.Frag) (H : Hp) (p : Addr) (x : Rw) : Prop := ∃ v, H p = some (.tup [.int x.1, v]) ∧ Dp K H v x.2
theorem RowAt.tk {K : PySem.W.Frag} {H H' : Hp} {p : Addr} {x : Rw} (h : RowAt K H p x) (g : tupO x.2 = true) (s : TK H H') : RowAt K H' p x := by
  obtain ⟨v, a, b⟩ := h
  exact ⟨v, s.t _ _ a, dp_tk s _ _ g b⟩
theorem RowAt.same {K : PySem.W.Frag} {H H' : Hp} {p : Addr} {x : Rw} (h : RowAt K H p x) (s : Same H H') : RowAt K H' p x := by
  obtain ⟨v, a, b⟩ := h
  exact ⟨v, s _ _ a, dp_same s _ _ b⟩
def rowsE (o : Int) (k : List Key) (es : List Ef) : List Rw := es.filterMap fun e => if e.1 = k then some (o, e.2) else none
def rowsL (rs : List Rc) (k : List Key) : List Rw := (rs.map fun r => rowsE r.o k (effB r.o r.h r.b)).flatten
theorem rowsE_t {r : Rc} {k : List Key} {es : List Ef} (g : ∀ e ∈ es, tupO e.2 = true) : ∀ x ∈ rowsE r.o k es, tupO x.2 = true := by
  intro x hx
  obtain ⟨e, he, h⟩ := List.mem_filterMap.mp hx
  split at h
  · cases h; exact g e he
  · cases h
theorem rowsL_t {rs : List Rc} {k : List Key} (g : ∀ r ∈ rs, RGood r) : ∀ x ∈ rowsL rs k, tupO x.2 = true := by
  intro x hx
  obtain ⟨l, hl, hx⟩ := List.mem_flatten.mp hx
  obtain ⟨r, hr, rfl⟩ := List.mem_map.mp hl
  exact rowsE_t (effB_t (g r hr)) x hx
theorem paired_tk {K : PySem.W.Frag} {H H' : Hp} (s : TK H H') : ∀ {ps : List Addr} {xs : List Rw}, (∀ x ∈ xs, tupO x.2 = true) → Paired (RowAt K H) ps xs → Paired (RowAt K H') ps xs
  | _, _, _, .nil => .nil
  | _, _, g, .cons r t => .cons (r.tk (g _ List.mem_cons_self) s) (paired_tk s (fun x hx => g x (List.mem_cons_of_mem _ hx)) t)
theorem paired_etk {K : PySem.W.Frag} {H H' : Hp} (s : TK H H') : ∀ {ps : List Addr} {xs : List Ef}, (∀ x ∈ xs, tupO x.2 = true) → Paired (EffAt K H) ps xs → Paired (EffAt K H') ps xs
  | _, _, _, .nil => .nil
  | _, _, g, .cons r t => .cons (r.tk (g _ List.mem_cons_self) s) (paired_etk s (fun x hx => g x (List.mem_cons_of_mem _ hx)) t)
def spLRows (K : PySem.W.Frag) : Sp := fun vs H Q _ => ∃ (a tt : Addr) (ts : List Addr) (rs : List Rc) (k : List Key), vs = [.ref a, .ref tt] ∧ SqL K H a (ts.map V.ref) ∧ Paired (RecAt K H) ts rs ∧ rs.length ≤ 100 ∧ (∀ r ∈ rs, RGood r) ∧ TopAt K H tt k ∧ KOk k ∧
  ∀ l (ps : List Addr) H', Same H H' → H l = Option.none → H' l = some (.lst (ps.map V.ref)) → Paired (RowAt K H') ps (rowsL rs k) → Q (.ref l) H'
section
variable {P : Program} {wd : World} {K : PySem.W.Frag} {mg : Str → Option Value} {base : Heap} {f fL : Addr} {fd fdL : FuncData}
end
end Sg

set_option Elab.async false
set_option linter.all false
set_option maxRecDepth 100000
set_option maxHeartbeats 4000000
namespace Sg
open PySem PySem.Spec PyProof.Rows L2
/-! ### the topics of records -/
theorem effB_form {o h : Int} {b : Bd} : ∀ e ∈ effB o h b, ∃ w n r, e.1 = Sum.inr w :: Sum.inl n :: r := by
  intro e he
  cases b with
  | leave n hb => cases hb <;> simp only [effB, List.mem_cons, List.not_mem_nil, or_false] at he <;> (try rcases he with rfl | rfl) <;> (try subst he) <;> exact ⟨_, _, _, rfl⟩
  | preempt n v w => cases w <;> simp only [effB, List.mem_cons, List.not_mem_nil, or_false] at he <;> (try rcases he with rfl | rfl) <;> (try subst he) <;> exact ⟨_, _, _, rfl⟩
  | _ => simp only [effB, List.mem_cons, List.not_mem_nil, or_false] at he; subst he; exact ⟨_, _, _, rfl⟩
def word (k : List Key) : Str := match k with
  | .inr w :: _ => w
  | _ => ""
def spaceK (k : List Key) : Int := match k with
  | _ :: .inl n :: _ => n
  | _ => 0
abbrev Tops := List (List Key)
instance memT (k : List Key) (ts : Tops) : Decidable (k ∈ ts) := decidable_of_iff ((ts.any fun x => decide (x = k)) = true) (by simp [List.any_eq_true])
def addT (ts : Tops) (e : Ef) : Tops := if e.1 ∈ ts ∨ word e.1 = "gone" then ts else ts ++ [e.1]
def effsL (rs : List Rc) : List Ef := (rs.map fun r => effB r.o r.h r.b).flatten
def topicsL (rs : List Rc) : Tops := (effsL rs).foldl addT []
theorem addT_k {ts : Tops} {e : Ef} (h : ∀ k ∈ ts, KOk k) (he : KOk e.1) : ∀ k ∈ addT ts e, KOk k := by
  unfold addT
  split
  · exact h
  · intro k hk
    rcases List.mem_append.mp hk with hk | hk
    · exact h k hk
    · rw [List.mem_singleton.mp hk]; exact he
theorem foldT_k : ∀ {es : List Ef} {ts : Tops}, (∀ k ∈ ts, KOk k) → (∀ e ∈ es, KOk e.1) → ∀ k ∈ es.foldl addT ts, KOk k
  | [], _, h, _ => h
  | e :: es, _, h, g => foldT_k (es := es) (addT_k h (g e List.mem_cons_self)) fun x hx => g x (List.mem_cons_of_mem _ hx)
theorem effsL_k {rs : List Rc} : ∀ e ∈ effsL rs, KOk e.1 := by
  intro e he
  obtain ⟨l, hl, he⟩ := List.mem_flatten.mp he
  obtain ⟨r, _, rfl⟩ := List.mem_map.mp hl
  exact effB_k e he
theorem topicsL_k {rs : List Rc} : ∀ k ∈ topicsL rs, KOk k := foldT_k (by intro k hk; cases hk) effsL_k
theorem effsL_snoc {rs : List Rc} {r : Rc} : effsL (rs ++ [r]) = effsL rs ++ effB r.o r.h r.b := by
  unfold effsL
  rw [List.map_append, List.flatten_append]
  show _ ++ (effB r.o r.h r.b ++ []) = _
  rw [List.append_nil]
theorem tops_lay : ∀ {ks : Tops}, (∀ k ∈ ks, KOk k) → PyData.canLayAll0 (ks.map topD) = true ∧ PyData.depthAll (ks.map topD) ≤ 1
  | [], _ => ⟨by simp [PyData.canLayAll0], by simp [PyData.depthAll]⟩
  | k :: ks, h => by
    obtain ⟨i1, i2⟩ := tops_lay (ks := ks) fun x hx => h x (List.mem_cons_of_mem _ hx)
    have g := topD_g (h k List.mem_cons_self)
    refine ⟨by simp [PyData.canLayAll0, i1, g.l], ?_⟩
    have := g.dp
    simp only [List.map_cons, PyData.depthAll]; omega
theorem tops_sh {ks : Tops} (h : ∀ k ∈ ks, KOk k) : SeqAt.shaped (.list (ks.map topD)) = true := shaped_list (tops_lay h).1 (Nat.le_trans (tops_lay h).2 (by decide))
theorem tops_dp {K : PySem.W.Frag} {H : Hp} : ∀ {ps : List Addr} {ks : Tops}, Paired (TopAt K H) ps ks → DpAll K H (ps.map V.ref) (ks.map topD)
  | _, _, .nil => .nil
  | _, _, .cons a b => .cons (TopAt.dp a) (tops_dp b)
theorem tops_any {ks : Tops} {k : List Key} : (ks.map topD).any (fun z => PyData.eqv z (topD k)) = decide (k ∈ ks) := by
  induction ks with
  | nil => rfl
  | cons x ks ih =>
    rw [List.map_cons, List.any_cons, ih, topD_eqv]
    by_cases h : x = k
    · rw [decide_eq_true h, decide_eq_true (show k ∈ x :: ks by rw [h]; exact List.mem_cons_self)]; rfl
    · rw [decide_eq_false h, Bool.false_or]
      by_cases g : k ∈ ks
      · rw [decide_eq_true g, decide_eq_true (List.mem_cons_of_mem _ g)]
      · rw [decide_eq_false g, decide_eq_false fun z => (List.mem_cons.mp z).elim (fun y => h y.symm) g]
theorem paired_ttk {K : PySem.W.Frag} {H H' : Hp} (s : TK H H') : ∀ {ps : List Addr} {ks : Tops}, Paired (TopAt K H) ps ks → Paired (TopAt K H') ps ks
  | _, _, .nil => .nil
  | _, _, .cons r t => .cons (sqT_tk r s) (paired_ttk s t)
theorem addT_len {ts : Tops} {e : Ef} : (addT ts e).length ≤ ts.length + 1 := by
  unfold addT
  split
  · omega
  · rw [List.length_append, List.length_singleton]; omega
def KeyTp (H : Hp) (t : Addr) (k : List Key) : Prop := H t = some (.tup (k.map kV))
theorem paired_ktk {H H' : Hp} (s : ∀ a xs, H a = some (.tup xs) → H' a = some (.tup xs)) : ∀ {ps : List Addr} {ks : Tops}, Paired (KeyTp H) ps ks → Paired (KeyTp H') ps ks
  | _, _, .nil => .nil
  | _, _, .cons r t => .cons (s _ _ r) (paired_ktk s t)
def spLTopics (K : PySem.W.Frag) : Sp := fun vs H Q _ => ∃ (a : Addr) (ts : List Addr) (rs : List Rc), vs = [.ref a] ∧ SqL K H a (ts.map V.ref) ∧ Paired (RecAt K H) ts rs ∧ rs.length ≤ 100 ∧ (∀ r ∈ rs, RGood r) ∧
  ∀ l (ps : List Addr) H', Same H H' → H l = Option.none → H' l = some (.lst (ps.map V.ref)) → Paired (KeyTp H') ps (topicsL rs) → Q (.ref l) H'
/-- a record that belongs to a namespace -/
def memberR (r : Rc) (n : Int) : Bool := (effB r.o r.h r.b).any fun e => decide (spaceK e.1 = n) && decide (word e.1 ≠ "told")
def spLMember (K : PySem.W.Frag) : Sp := fun vs H Q _ => ∃ (t : Addr) (r : Rc) (n : Int), vs = [.ref t, .int n] ∧ RecAt K H t r ∧ ∀ H', Same H H' → Q (.bl (memberR r n)) H'
section
variable {P : Program} {wd : World} {K : PySem.W.Frag} {mg : Str → Option Value} {base : Heap} {f fL : Addr} {fd fdL : FuncData}
theorem scLTopics : FnScope ["records", "topics", "record", "effect"] ["records"] (defScope sLTopics) := ⟨rfl, rfl, rfl, by decide +kernel, rfl, by decide +kernel, by decide +kernel⟩
theorem ok_ltopics (F : Fun K "_law_topics" "_law_topics" sLTopics f fd) (GL : Def P wd K mg base CX0 "_law_effects" 1 ["record"] (spEffB K) fL fdL) : FnOk P wd K mg base CX0 2 f fd ["records"] (spLTopics K) := by
  refine F.ok scLTopics (fun vs H Q E h => ?_) (fun cdv A outer s H vs Q E hr h => ?_)
  · obtain ⟨a, ts, rs, rfl, _⟩ := h
    rfl
  · obtain ⟨a, ts, rs, rfl, ha, hp, hn, hg, q⟩ := h
    refine ⟨_, (pss_cons (ps_set (i := 1) scLTopics.nd rfl (Or.inl rfl) (pe_lst pa_nil))
      (pss_cons (ps_for PassesOwn.never rfl (pi_list (pv 0)) (pg_name (i := 2) scLTopics.nd rfl (Or.inl rfl))
      (pss_one (ps_for PassesOwn.never rfl (pi_list (pe_call GL.ok hr (by rfl) GL.mg GL.kp GL.bd .nil pass0 (pa_cons (pv 2) pa_nil))) (pg_name (i := 3) scLTopics.nd rfl (Or.inl rfl))
      (pss_one (ps_if (PW.pt (pw_and (pt_cmpR (op_notInD (hu65 hr)) (pe_ix ix_tup (pv 3) pe_int (fun _ _ => rfl)) (pv 1) (by rfl)) (pw_and1 (pt_cmpR op_ne (pe_ix ix_tup (pe_ix ix_tup (pv 3) pe_int (fun _ _ => rfl)) pe_int (fun _ _ => rfl)) pe_str (nomark _)))))
      (pss_one (ps_expr (pe_bm PySem.F.plainAttrs_list PySem.F.slot_list_append PySem.F.type_list_append mt_append (pv 1) (pa_cons (pe_ix ix_tup (pv 3) pe_int (fun _ _ => rfl)) pa_nil)))) pss_nil)))))
      (pss_one (ps_ret (pv 1))))), ?_⟩
    refine ⟨by show 0 ≤ sizeLine; decide, fun rl hrl => ?_⟩
    have s1 := same_new (o := .lst []) hrl
    have h1 : (upd H rl (.lst [])) rl = some (.lst []) := upd_same
    generalize upd H rl (.lst []) = H1 at s1 h1
    have hlen := hp.length
    refine ⟨_, rfl, a, rfl, ⟨_, s1.seq ha⟩, ?_⟩
    refine for_list (K := K) (a := a) (xs := ts.map V.ref) (fun i σ' H' => ∃ (v3 v4 : Option V) (ps : List Addr), σ' = [some (.ref a), some (.ref rl), v3, v4] ∧ Same H H' ∧ H' rl = some (.lst (ps.map V.ref)) ∧ Paired (KeyTp H') ps (topicsL (rs.take i)) ∧ ps.length ≤ 2 * i)
      ⟨none, none, [], rfl, s1, h1, .nil, Nat.zero_le _⟩ (fun i σ' H' _ ⟨_, _, _, _, sm, _⟩ => sm.seq ha) ?_ ?_
    · rintro i x σ' H2 hx ⟨v3, v4, ps, rfl, sm, h2, pr, hpl⟩
      obtain ⟨t, hti, rfl⟩ := map_get hx
      obtain ⟨r, hri, hrt⟩ := paired_at hp hti
      have hil := (List.getElem?_eq_some_iff.mp hri).1
      have gr := hg r (List.mem_of_getElem? hri)
      have rt := hrt.same sm
      have tk : rs.take (i + 1) = rs.take i ++ [r] := by rw [List.take_add_one, hri]; rfl
      refine ⟨_, rfl, t, r, rfl, rt, fun l es H3 s3 hl hl3 pe => ⟨l, rfl, ⟨_, SqL.of hl3⟩, ?_⟩⟩
      have ge := effB_t gr
      have nlr : l ≠ rl := fun e => by rw [e, h2] at hl; cases hl
      refine for_list (K := K) (a := l) (xs := es.map V.ref) (fun m σ' H' => ∃ (v4 : Option V) (ps' : List Addr), σ' = [some (.ref a), some (.ref rl), some (.ref t), v4] ∧ Same H H' ∧ H' l = some (.lst (es.map V.ref)) ∧ Paired (EffAt K H') es (effB r.o r.h r.b) ∧ H' rl = some (.lst (ps'.map V.ref)) ∧ Paired (KeyTp H') ps' (((effB r.o r.h r.b).take m).foldl addT (topicsL (rs.take i))) ∧ ps'.length ≤ 2 * i + m)
        ⟨v4, ps, rfl, sm.trans s3, hl3, pe, s3 _ _ h2, by
          rw [List.take_zero]; exact paired_ktk (fun _ _ z => s3 _ _ z) pr, by omega⟩ (fun m σ' H' _ ⟨_, _, _, _, hl', _⟩ => SqL.of hl') ?_ ?_
      · rintro m x σ' H4 hx ⟨v4, ps', rfl, sm4, hl4, pe4, h4, pr4, hpl4⟩
        obtain ⟨e, hei, rfl⟩ := map_get hx
        obtain ⟨ef, hefi, he⟩ := paired_at pe4 hei
        have hefm := List.mem_of_getElem? hefi
        have hml := (List.getElem?_eq_some_iff.mp hefi).1
        have e2 : (effB r.o r.h r.b).length ≤ 2 := effB_len
        have tk4 : (effB r.o r.h r.b).take (m + 1) = (effB r.o r.h r.b).take m ++ [ef] := by rw [List.take_add_one, hefi]; rfl
        obtain ⟨t1, v1, a1, a2, a3⟩ := id he
        obtain ⟨w, n, r', hk⟩ := effB_form _ hefm
        have d1 : Dp K H4 (.ref t1) (topD ef.1) := TopAt.dp (SqT.of a2)
        have kok : ∀ k ∈ ((effB r.o r.h r.b).take m).foldl addT (topicsL (rs.take i)), KOk k := foldT_k topicsL_k fun x hx => effB_k x (List.mem_of_mem_take hx)
        have hw : word ef.1 = w := by rw [hk]; rfl
        have a2' : SqT K H4 t1 (V.str w :: V.int n :: r'.map kV) := by
          have z := SqT.of (K := K) a2
          rw [hk] at z; exact z
        refine ⟨_, rfl, e, _, _, _, rfl, rfl, SqT.of a1, atI_nat (j := 0) rfl, _, rfl, _, _, d1, .lst (SqL.of h4) (tops_dp (Paired.imp2 (fun _ _ z => SqT.of z) pr4)), (topD_g (effB_k _ hefm)).sh (by decide), tops_sh kok, _, rfl, ?_⟩
        rw [tops_any]
        by_cases c : ef.1 ∈ ((effB r.o r.h r.b).take m).foldl addT (topicsL (rs.take i))
        · rw [decide_eq_true c]
          refine iteF ⟨_, ps', rfl, sm4, hl4, pe4, h4, ?_, by omega⟩
          rw [tk4, List.foldl_append]
          show Paired _ _ (addT _ ef)
          unfold addT
          rw [if_pos (.inl c)]; exact pr4
        · rw [decide_eq_false c]
          refine iteT ⟨_, rfl, e, _, _, _, rfl, rfl, SqT.of a1, atI_nat (j := 0) rfl, t1, _, _, _, rfl, rfl, a2', atI_nat (j := 0) rfl, rfl, _, rfl, ?_⟩
          by_cases cw : w = "gone"
          · rw [cw, str_eqT]
            refine iteF ⟨_, ps', rfl, sm4, hl4, pe4, h4, ?_, by omega⟩
            rw [tk4, List.foldl_append]
            show Paired _ _ (addT _ ef)
            unfold addT
            rw [if_pos (.inr (hw.trans cw))]; exact pr4
          · rw [str_eqF cw]
            refine iteT ⟨_, rfl, .inl ⟨rfl, _, SqL.of h4⟩, _, rfl, e, _, _, _, rfl, rfl, SqT.of a1, atI_nat (j := 0) rfl, nil_ ⟨rl, ps'.map V.ref, _, rfl, rfl, h4, ?_, ?_⟩⟩
            · rw [List.length_map]; exact small1000 (by omega)
            · have k5 : TK H4 (upd H4 rl (.lst (ps'.map V.ref ++ [.ref t1]))) := TK.off (xs := [rl]) (Off.upd (by simp)) fun x hx => by rw [List.mem_singleton.mp hx]; exact .inl ⟨_, h4⟩
              refine ⟨_, ps' ++ [t1], rfl, fun b u z => ?_, ?_, paired_etk k5 ge pe4, by rw [List.map_append]; exact upd_same, ?_, by rw [List.length_append, List.length_singleton]; omega⟩
              · rw [upd_ne (ne_of_none z hrl)]; exact sm4 _ _ z
              · rw [upd_ne nlr]; exact hl4
              · rw [tk4, List.foldl_append]
                show Paired _ _ (addT _ ef)
                unfold addT
                rw [if_neg (fun z => z.elim c fun z => cw (hw.symm.trans z))]
                exact paired_append (paired_ktk k5.t pr4) (.cons (k5.t _ _ a2) .nil)
      · rintro σ' H4 ⟨v4, ps', rfl, sm4, hl4, pe4, h4, pr4, hpl4⟩
        have e2 : (effB r.o r.h r.b).length ≤ 2 := effB_len
        have e3 := pe4.length
        rw [List.length_map, e3, List.take_length] at pr4
        rw [List.length_map] at hpl4
        refine ⟨_, _, ps', rfl, sm4, h4, ?_, by omega⟩
        rw [tk]
        unfold topicsL
        rw [effsL_snoc, List.foldl_append]
        exact pr4
    · rintro σ' H2 ⟨v3, v4, ps, rfl, sm, h2, pr, hpl⟩
      rw [List.length_map, show ts.length = rs.length from hlen, List.take_length] at pr
      exact ⟨_, rfl, q rl ps H2 sm hrl h2 pr⟩
end
end Sg

set_option Elab.async false
set_option linter.all false
set_option maxRecDepth 100000
set_option maxHeartbeats 4000000
namespace Sg
open PySem PySem.Spec PyProof.Rows L2
/-! ### what is hidden -/
abbrev Vw := Option (Int × Int)
def ViewAt (K : PySem.W.Frag) (H : Hp) (v : V) : Vw → Prop
  | none => v = .non
  | some (s, n) => ∃ a, v = .ref a ∧ SqT K H a [.int s, .int n]
theorem ViewAt.same {K : PySem.W.Frag} {H H' : Hp} {v : V} {w : Vw} (h : ViewAt K H v w) (s : Same H H') : ViewAt K H' v w := by
  cases w with
  | none => exact h
  | some x =>
    obtain ⟨a, e, g⟩ := h
    exact ⟨a, e, SqT_same s g⟩
def inView (w : Vw) (o : Int) : Bool := match w with
  | none => true
  | some (_, n) => decide (o < n)
def goneK (n : Int) : List Key := [.inr "gone", .inl n]
theorem goneK_ok {n : Int} : KOk (goneK n) := by
  intro x hx s hs
  rcases List.mem_cons.mp hx with rfl | hx
  · cases hs; decide +kernel
  · rw [List.mem_singleton.mp hx] at hs; cases hs
def hidL (rs : List Rc) (k : List Key) (o : Int) (w : Vw) : Bool := if word k = "told" then false else (rowsL rs (goneK (spaceK k))).any fun x => decide (o < x.1) && inView w x.1
/-- a topic of a namespace -/
def TForm (k : List Key) : Prop := ∃ w n r, k = Sum.inr w :: Sum.inl n :: r
def spLHidden (K : PySem.W.Frag) : Sp := fun vs H Q _ => ∃ (a tt : Addr) (ts : List Addr) (rs : List Rc) (k : List Key) (o : Int) (v : V) (w : Vw), vs = [.ref a, .ref tt, .int o, v] ∧ SqL K H a (ts.map V.ref) ∧ Paired (RecAt K H) ts rs ∧ rs.length ≤ 100 ∧ (∀ r ∈ rs, RGood r) ∧ TopAt K H tt k ∧ TForm k ∧ ViewAt K H v w ∧
  ∀ H', Same H H' → Q (.bl (hidL rs k o w)) H'
theorem int_dec {a b : Int} : decide (V.int a = V.int b) = decide (a = b) := by
  by_cases z : a = b
  · rw [decide_eq_true z, decide_eq_true (by rw [z])]
  · rw [decide_eq_false z, decide_eq_false fun y => z (by cases y; rfl)]
section
variable {P : Program} {wd : World} {K : PySem.W.Frag} {mg : Str → Option Value} {base : Heap} {f fR : Addr} {fd fdR : FuncData}
end
end Sg

set_option Elab.async false
set_option linter.all false
set_option maxRecDepth 100000
set_option maxHeartbeats 4000000
namespace Sg
open PySem PySem.Spec PyProof.Rows L2
/-- [x for x in a list if ..]: what is left, in its order -/
theorem lc_filtL {K : PySem.W.Frag} {σ : L2.St} {H1 : Hp} {D a : Addr} {vs : List Nat} {j : Nat} {xs : List V} {tt : TT} {te : TE} {Qd : Hp → Prop} (f : V → Bool) (hD : H1 D = Option.none) (hx : SqL K H1 a xs) (hw : ∀ x, wipe ((wipe σ vs).set j (some x)) vs = wipe σ vs) (hz : xs.length ≤ sizeLine)
    (he : ∀ (x : V) (H' : Hp) (Q' : Bool → Hp → Prop), x ∈ xs → Same H1 H' → (∀ H'', Same H' H'' → Q' (f x) H'') → tt ((wipe σ vs).set j (some x)) H' Q')
    (hv : ∀ (x : V) (H' : Hp) (Q' : VK), x ∈ xs → Q' x H' → te ((wipe σ vs).set j (some x)) H' Q')
    (hd : ∀ H', Same H1 H' → H' D = some (.lst (xs.filter f)) → Qd H') :
    ∃ W : Nat → Nat → Hp → Prop, (∃ m, W 0 m (upd H1 D (.lst []))) ∧ ∀ i m H, W i m H →
      ((Itl K a).stop i H ∧ Qd H) ∨ ((Itl K a).go i H ∧ ∃ Nx : Hp → Prop, (∀ H', Nx H' → ∃ m', m' < m ∧ W (i + 1) m' H') ∧ ∀ x H', (Itl K a).yld i H x H' → gName j x (wipe σ vs) H' fun σ2 H2 => wipe σ2 vs = wipe σ vs ∧ tt σ2 H2 fun b H3 =>
        if b = true then te σ2 H3 fun y H4 => ∃ acc, H4 D = some (.lst acc) ∧ acc.length < sizeLine ∧ Nx (upd H4 D (.lst (acc ++ [y]))) else Nx H3) := by
  refine lc_list (K := K) (a := a) (xs := xs) (fun i H' => i ≤ xs.length ∧ Same H1 H' ∧ H' D = some (.lst ((xs.take i).filter f))) ⟨Nat.zero_le _, same_new hD, by rw [List.take_zero]; exact upd_same⟩ (fun i H' _ ⟨_, sm, _⟩ => sm.seq hx) ?_ ?_
  · rintro i x H' hi ⟨_, sm, hDl⟩
    have hil := (List.getElem?_eq_some_iff.mp hi).1
    have hm := List.mem_of_getElem? hi
    refine ⟨hw _, he x H' _ hm sm fun H'' s2 => ?_⟩
    have hD2 := s2 _ _ hDl
    have hlen : ((xs.take i).filter f).length ≤ i := Nat.le_trans (List.length_filter_le _ _) (by rw [List.length_take]; omega)
    cases hf : f x with
    | true =>
      rw [if_pos rfl]
      refine hv x H'' _ hm ⟨_, hD2, by omega, by omega, ?_, ?_⟩
      · intro y o hy'
        rw [upd_ne (ne_of_none hy' hD)]
        exact s2 _ _ (sm _ _ hy')
      · rw [upd_same, List.take_add_one, hi, List.filter_append]
        simp [hf]
    | false =>
      rw [if_neg Bool.false_ne_true]
      refine ⟨by omega, sm.trans s2, ?_⟩
      rw [hD2, List.take_add_one, hi, List.filter_append]
      simp [hf]
  · rintro H' ⟨_, sm, hDl⟩
    exact hd H' sm (by rw [List.take_length] at hDl; exact hDl)
/-- the order of a row in the heap -/
def ordOf (H : Hp) : V → Int
  | .ref p => match H p with
    | some (.tup (.int o :: _)) => o
    | _ => 0
  | _ => 0
theorem ord_at {H : Hp} {p : Addr} {o : Int} {v : V} (h : H p = some (.tup [.int o, v])) : ordOf H (.ref p) = o := by
  show (match H p with
    | some (.tup (.int o :: _)) => o
    | _ => 0) = o
  rw [h]
theorem paired_filt {K : PySem.W.Frag} {H : Hp} {g : Int → Bool} : ∀ {ps : List Addr} {xs : List Rw}, Paired (RowAt K H) ps xs → ∃ ps' : List Addr, (ps.map V.ref).filter (fun v => g (ordOf H v)) = ps'.map V.ref ∧ Paired (RowAt K H) ps' (xs.filter fun x => g x.1)
  | _, _, .nil => ⟨[], rfl, .nil⟩
  | _, _, .cons (a := p) (b := x) h t => by
    obtain ⟨ps', e, pr⟩ := paired_filt (g := g) t
    obtain ⟨v, a1, a2⟩ := id h
    have eo : ordOf H (.ref p) = x.1 := ord_at a1
    cases c : g x.1 with
    | true => exact ⟨p :: ps', by rw [List.map_cons, List.filter_cons, eo, c, if_pos rfl, e]; rfl, by rw [List.filter_cons, c, if_pos rfl]; exact .cons h pr⟩
    | false => exact ⟨ps', by rw [List.map_cons, List.filter_cons, eo, c, if_neg (by decide)]; exact e, by rw [List.filter_cons, c, if_neg (by decide)]; exact pr⟩
theorem paired_rsame {K : PySem.W.Frag} {H H' : Hp} (s : Same H H') {ps : List Addr} {xs : List Rw} (h : Paired (RowAt K H) ps xs) : Paired (RowAt K H') ps xs := Paired.imp2 (fun _ _ z => z.same s) h
def noneQ : PyData → Bool
  | .none => true
  | _ => false
def vrows (rs : List Rc) (k : List Key) (w : Vw) : List Rw := (rowsL rs k).filter fun x => inView w x.1
/-- what is live of a topic in a view -/
def byTop (rs : List Rc) (k : List Key) (w : Vw) : List Int := match (vrows rs k w).getLast? with
  | none => []
  | some x => if hidL rs k x.1 w = true then [] else if noneQ x.2 = true ∧ (vrows rs k w).length = 1 then [] else [x.1]
theorem effB_g {r : Rc} (g : RGood r) : ∀ e ∈ effB r.o r.h r.b, GD 60 e.2 := by
  intro e he
  have ht := effB_t g e he
  obtain ⟨o, h, s, c, b⟩ := r
  have wi : ∀ (w : Str) (h : Int), PyData.strOk w = true → GD 60 (.tuple [.int h, .str w]) := fun w h hw => (gd_tup2 (n := 0) gd_int ⟨rfl, by simpa [PyData.canLay0] using hw, by simp [PyData.depth]⟩).mono (by decide)
  have gl := g.l
  have gd := g.dp
  cases b with
  | mark d =>
    simp only [effB, List.mem_cons, List.not_mem_nil, or_false] at he
    subst he
    simp only [recDt, fldD, PyData.canLay0, PyData.canLayAll0, PyData.depth, PyData.depthAll, Bool.and_eq_true] at gl gd
    exact ⟨ht, gl.2.2.2.2.2.1, by show d.depth ≤ 60; omega⟩
  | leave n hb => cases hb <;> simp only [effB, List.mem_cons, List.not_mem_nil, or_false] at he <;> (try rcases he with rfl | rfl) <;> (try subst he) <;> exact gd_none
  | preempt n v w =>
    cases w with
    | none => simp only [effB, List.mem_cons, List.not_mem_nil, or_false] at he; subst he; exact gd_none
    | some w =>
      simp only [recDt, fldD, wayD, PyData.canLay0, PyData.canLayAll0, Bool.and_eq_true] at gl
      simp only [effB, List.mem_cons, List.not_mem_nil, or_false] at he
      rcases he with rfl | rfl
      · exact gd_none
      · exact wi w h gl.2.2.2.2.2.2.2.1
  | reserve n w =>
    simp only [recDt, fldD, PyData.canLay0, PyData.canLayAll0, Bool.and_eq_true] at gl
    simp only [effB, List.mem_cons, List.not_mem_nil, or_false] at he
    subst he
    exact wi w h gl.2.2.2.2.2.2.1
  | _ =>
    simp only [effB, List.mem_cons, List.not_mem_nil, or_false] at he
    subst he
    first | exact gd_int | exact gd_none
theorem rowsL_g {rs : List Rc} {k : List Key} (g : ∀ r ∈ rs, RGood r) : ∀ x ∈ rowsL rs k, GD 60 x.2 := by
  intro x hx
  obtain ⟨l, hl, hx⟩ := List.mem_flatten.mp hx
  obtain ⟨r, hr, rfl⟩ := List.mem_map.mp hl
  obtain ⟨e, he, h⟩ := List.mem_filterMap.mp hx
  split at h
  · cases h; exact effB_g (g r hr) e he
  · cases h
def rowD (x : Rw) : PyData := .tuple [.int x.1, x.2]
theorem rows_dp {K : PySem.W.Frag} {H : Hp} : ∀ {ps : List Addr} {xs : List Rw}, Paired (RowAt K H) ps xs → DpAll K H (ps.map V.ref) (xs.map rowD)
  | _, _, .nil => .nil
  | _, _, .cons ⟨_, a, b⟩ t => .cons (.tup (SqT.of a) (.cons (.int _) (.cons b .nil))) (rows_dp t)
theorem rows_lay : ∀ {xs : List Rw}, (∀ x ∈ xs, GD 60 x.2) → PyData.canLayAll0 (xs.map rowD) = true ∧ PyData.depthAll (xs.map rowD) ≤ 61
  | [], _ => ⟨by simp [PyData.canLayAll0], by simp [PyData.depthAll]⟩
  | x :: xs, h => by
    obtain ⟨i1, i2⟩ := rows_lay (xs := xs) fun y hy => h y (List.mem_cons_of_mem _ hy)
    have g := gd_tup2 (gd_int (n := 60) (i := x.1)) (h x List.mem_cons_self)
    refine ⟨by simp only [List.map_cons, PyData.canLayAll0, i1, Bool.and_true]; exact g.l, ?_⟩
    have := g.dp
    simp only [List.map_cons, PyData.depthAll]
    show max (rowD x).depth _ ≤ 61
    exact Nat.max_le.mpr ⟨this, i2⟩
end Sg

set_option Elab.async false
set_option linter.all false
set_option maxRecDepth 100000
set_option maxHeartbeats 4000000
namespace Sg
open PySem PySem.Spec PyProof.Rows L2
def spLByTopic (K : PySem.W.Frag) : Sp := fun vs H Q _ => ∃ (a tt : Addr) (ts : List Addr) (rs : List Rc) (k : List Key) (v : V) (w : Vw), vs = [.ref a, .ref tt, v] ∧ SqL K H a (ts.map V.ref) ∧ Paired (RecAt K H) ts rs ∧ rs.length ≤ 100 ∧ (∀ r ∈ rs, RGood r) ∧ TopAt K H tt k ∧ TForm k ∧ KOk k ∧ ViewAt K H v w ∧
  ∀ l H', Same H H' → H l = Option.none → H' l = some (.lst ((byTop rs k w).map V.int)) → Q (.ref l) H'
theorem paired_last {K : PySem.W.Frag} {H : Hp} {xs : List Rw} {x : Rw} : ∀ {ps : List Addr}, Paired (RowAt K H) ps (xs ++ [x]) → ∃ qs p, ps = qs ++ [p] ∧ RowAt K H p x := by
  induction xs with
  | nil =>
    intro ps h
    cases h with
    | cons a b => cases b; exact ⟨[], _, rfl, a⟩
  | cons y ys ih =>
    intro ps h
    cases h with
    | cons a b =>
      obtain ⟨qs, p, e, g⟩ := ih b
      exact ⟨_ :: qs, p, by rw [e]; rfl, g⟩
theorem dp_noneQ {K : PySem.W.Frag} {H : Hp} {v : V} {d : PyData} (h : Dp K H v d) : decide (v = .non) = noneQ d := by
  cases h <;> first | rfl | exact decide_eq_false (by intro z; cases z)
section
variable {P : Program} {wd : World} {K : PySem.W.Frag} {mg : Str → Option Value} {base : Heap} {f fR fH : Addr} {fd fdR fdH : FuncData}
end
end Sg

set_option Elab.async false
set_option linter.all false
set_option maxRecDepth 100000
set_option maxHeartbeats 4000000
/-! sorted(xs) of tuples whose first parts, whole numbers, are different: whatever stands behind them -/
namespace Sg
open PySem PySem.W PyProof.Rows
def hdI : PyData → Int
  | .tuple (.int k :: _) => k
  | _ => 0
structure HeadsOk (ds : List PyData) : Prop where
  form : ∀ d ∈ ds, ∃ k r, d = .tuple (.int k :: r)
  one : ∀ d ∈ ds, ∀ e ∈ ds, hdI d = hdI e → d = e
  self : ∀ d ∈ ds, alike d d = true
theorem first_of {h : Heap} {v : Value} {k : Int} {r : List PyData} {as : List Addr} (hr : Reads h v (.tuple (.int k :: r)) as) :
    ∃ a o xs n t, v = .ref a ∧ h.get? a = some o ∧ o.cls = .type "tuple" ∧ o.data = .seq xs n ∧ xs[0]? = some (.int k t) := by
  cases hr with
  | @tuple a o xs n _ _ g1 g2 g3 g4 =>
    cases q : xs.toList with
    | nil => rw [q] at g4; cases g4
    | cons f fr =>
      rw [q] at g4
      cases g4 with
      | cons z _ =>
        cases z
        exact ⟨a, o, xs, n, _, rfl, g1, g2, g3, by rw [← Array.getElem?_toList, q]; rfl⟩
theorem head_one {h : Heap} {v : Value} {d e : PyData} {as bs : List Addr} (hd : ∃ k r, d = .tuple (.int k :: r)) (he : ∃ k r, e = .tuple (.int k :: r)) (rd : Reads h v d as) (re : Reads h v e bs) : hdI d = hdI e := by
  obtain ⟨k, r, rfl⟩ := hd
  obtain ⟨k', r', rfl⟩ := he
  obtain ⟨a, o, xs, n, t, rfl, a1, a2, a3, a4⟩ := first_of rd
  obtain ⟨b, p, ys, m, u, eb, b1, b2, b3, b4⟩ := first_of re
  cases eb
  rw [a1] at b1
  cases b1
  rw [a3] at b3
  cases b3
  rw [a4] at b4
  cases b4
  rfl
noncomputable def headKind (h : Heap) (ds : List PyData) : PyProof.Rows.KeyKind where
  toKeyOrd := listOrd itemOrd
  keyOf v := open Classical in if z : ∃ d ∈ ds, ∃ bs, Reads h v d bs then some (keyToks (.int (hdI z.choose))) else none
  dflt := List.nil
theorem headKind_at {h : Heap} {ds : List PyData} (ho : HeadsOk ds) {v : Value} {d : PyData} {as : List Addr} (hd : d ∈ ds) (r : Reads h v d as) : (headKind h ds).keyOf v = some (keyToks (.int (hdI d))) := by
  have z : ∃ d ∈ ds, ∃ bs, Reads h v d bs := ⟨d, hd, as, r⟩
  show (open Classical in if z : ∃ d ∈ ds, ∃ bs, Reads h v d bs then some (keyToks (.int (hdI z.choose))) else none) = _
  rw [dif_pos z]
  obtain ⟨h1, bs, h2⟩ := z.choose_spec
  rw [head_one (ho.form _ h1) (ho.form _ hd) h2 r]
theorem headKind_of {h : Heap} {ds : List PyData} (ho : HeadsOk ds) {v : Value} {k : List (Int ⊕ List Nat)} (e : (headKind h ds).keyOf v = some k) : ∃ d as, d ∈ ds ∧ Reads h v d as ∧ k = keyToks (.int (hdI d)) := by
  by_cases z : ∃ d ∈ ds, ∃ bs, Reads h v d bs
  · obtain ⟨d, hd, bs, r⟩ := z
    rw [headKind_at ho hd r] at e
    exact ⟨d, bs, hd, r, (Option.some.inj e).symm⟩
  · have : (headKind h ds).keyOf v = none := by
      show (open Classical in if z : ∃ d ∈ ds, ∃ bs, Reads h v d bs then some (keyToks (.int (hdI z.choose))) else none) = _
      rw [dif_neg z]; rfl
    rw [this] at e; cases e
section
variable {prog : Program} {w : World} {A : Around} {s : Shared}
theorem sortsHeads {vs : List Value} {ds : List PyData} (e : EachIs (fun v d => ∃ as, Reads s.heap v d as) vs ds) (ho : HeadsOk ds) (hu : ∀ d ∈ ds, A.units + d.depth < cLine) : SortsAt prog w A s (headKind s.heap ds) vs := by
  refine ⟨fun v hv => ?_, tuples' true, ?_, fun h2 E Q hq => ?_⟩
  · obtain ⟨d, hd, as, r⟩ := e.left v hv
    exact ⟨_, headKind_at ho hd r⟩
  · intro E x y a b Q ha hb hq
    obtain ⟨d, as, hd, ra, rfl⟩ := headKind_of ho ha
    obtain ⟨d', bs, hd', rb, rfl⟩ := headKind_of ho hb
    have hq' : Q (dataLt (.int (hdI d)) (.int (hdI d'))) s := hq
    have hroom : A.units + min d.depth d'.depth < cLine := Nat.lt_of_le_of_lt (Nat.add_le_add_left (Nat.min_le_left _ _) _) (hu d hd)
    by_cases c : hdI d = hdI d'
    · obtain rfl := ho.one _ hd _ hd' c
      obtain ⟨k, r, rfl⟩ := ho.form _ hd
      have al := ho.self _ hd
      rw [show dataLt (.int (hdI (.tuple (.int k :: r)))) (.int (hdI (.tuple (.int k :: r)))) = false from lex_irrefl _] at hq'
      cases ra with
      | @tuple l o xs n _ _ g1 g2 g3 g4 =>
        cases rb with
        | @tuple l' o' ys m _ _ k1 k2 k3 k4 =>
          have n1 : xs.size = (PyData.int k :: r).length := by simpa using SeqAt.ReadsAll.length _ _ _ g4
          have n2 : ys.size = (PyData.int k :: r).length := by simpa using SeqAt.ReadsAll.length _ _ _ k4
          refine kat_lt g1 g3 k1 k3 (katLex_alike _ _ 0 _ _ _ _ g4 k4 (by simpa [alike] using al) (by have z := SeqAt.room_in hroom; omega) (fun _ _ x r' t ex => ?_) (by rw [n1, n2]) (by rw [lex_irrefl]; exact hq'))
          cases ex
          intro z; cases z
    · obtain ⟨k, r, rfl⟩ := ho.form _ hd
      obtain ⟨k', r', rfl⟩ := ho.form _ hd'
      have ck : ¬ k = k' := c
      cases ra with
      | @tuple l o xs n _ _ g1 g2 g3 g4 =>
        cases rb with
        | @tuple l' o' ys m _ _ k1 k2 k3 k4 =>
          refine kat_lt g1 g3 k1 k3 ?_
          generalize xs.toList = xl at g4
          generalize ys.toList = yl at k4
          cases g4 with
          | cons z1 z2 =>
            cases k4 with
            | cons y1 y2 =>
              rw [List.zip_cons_cons]
              have rm : A.units + min (PyData.int k).depth (PyData.int k').depth < cLine := by
                have e0 : min (PyData.int k).depth (PyData.int k').depth = 0 := by simp [PyData.depth]
                rw [e0]; omega
              refine kat_cons (eqAt_alike (.int k) (.int k') A s _ _ _ _ z1 y1 (by simp [alike]) rm prog w _ _ ?_)
              rw [show PyData.eqv (.int k) (.int k') = false by simp [PyData.eqv, ck]]
              exact kat_no (oneLt_alike (fun _ xs z => by cases z) z1 y1 (by simp [alike]) (by intro z; cases z) rm hq')
  · obtain ⟨fs, t1, t2, t3⟩ := each_katTups e fun d hd => by
      obtain ⟨k, r, z⟩ := ho.form d hd
      exact ⟨_, _, z⟩
    refine kat_kind (T := .type "int") t1 (by omega) (fun f hf => ?_) (by decide) hq
    obtain ⟨x, r, as, m1, m2⟩ := t3 f hf
    obtain ⟨k, r', z⟩ := ho.form _ m1
    cases z
    exact looks_reads m2
end
end Sg

set_option Elab.async false
set_option linter.all false
set_option maxRecDepth 100000
set_option maxHeartbeats 4000000
/-! sorted(records), of records in ascending order: the same once more -/
namespace Sg
open PySem PySem.Spec PyProof.Rows L2
def rSortRc (K : PySem.W.Frag) : List V → Hp → VK → Prop := fun vs H Q => ∃ (a : Addr) (ts : List Addr) (rs : List Rc), vs = [.ref a] ∧ SqL K H a (ts.map V.ref) ∧ Paired (RecAt K H) ts rs ∧ (∀ r ∈ rs, RGood r) ∧ rs.Pairwise (fun x y => x.o < y.o) ∧
  ∀ p, H p = Option.none → Q (.ref p) (upd H p (.lst (ts.map V.ref)))
mutual
theorem alike_self : ∀ (d : PyData), tupO d = true → PySem.W.alike d d = true
  | .none, _ => by simp [PySem.W.alike]
  | .bool _, _ => by simp [PySem.W.alike]
  | .int _, _ => by simp [PySem.W.alike]
  | .str _, _ => by simp [PySem.W.alike]
  | .tuple ds, h => by
    simp only [PySem.W.alike]
    exact alike_selfs ds (by simpa [tupO] using h)
  | .list _, h => by simp [tupO] at h
  | .dict _, h => by simp [tupO] at h
theorem alike_selfs : ∀ (ds : List PyData), tupOs ds = true → PySem.W.alikeAll ds ds = true
  | [], _ => by simp [PySem.W.alikeAll]
  | d :: ds, h => by
    have g : tupO d = true ∧ tupOs ds = true := by simpa [tupOs] using h
    simp only [PySem.W.alikeAll, alike_self d g.1, alike_selfs ds g.2, Bool.and_self]
end
theorem rts_zip {K : PySem.W.Frag} {H : Hp} : ∀ {ts : List Addr} {rs : List Rc}, Paired (RecAt K H) ts rs → ∀ b ∈ ts.zip rs, RecAt K H b.1 b.2
  | _, _, .nil, b, hb => by simp at hb
  | _, _, .cons r t, b, hb => by
    rw [List.zip_cons_cons] at hb
    rcases List.mem_cons.mp hb with rfl | hb
    · exact r
    · exact rts_zip t b hb
theorem zip_s {α β : Type} : ∀ {a : List α} {b : List β}, a.length = b.length → (a.zip b).map Prod.snd = b ∧ (a.zip b).map Prod.fst = a
  | [], [], _ => ⟨rfl, rfl⟩
  | x :: a, y :: b, h => by
    obtain ⟨p, q⟩ := zip_s (a := a) (b := b) (by simpa using h)
    rw [List.zip_cons_cons, List.map_cons, List.map_cons, p, q]
    exact ⟨rfl, rfl⟩
theorem zip_vals {bs : List (Addr × Rc)} : ∀ {vs : List Value}, Vals (bs.map fun b => V.ref b.1) vs → PySem.W.EachIs (fun v (b : Addr × Rc) => v = Value.ref b.1) vs bs := by
  induction bs with
  | nil => intro vs r; cases r; exact .nil
  | cons t ts ih =>
    intro vs r
    cases r with
    | cons r1 r2 => exact .cons r1 (ih r2)
theorem vals_zip : ∀ {vs : List Value} {bs : List (Addr × Rc)}, PySem.W.EachIs (fun v (b : Addr × Rc) => v = Value.ref b.1) vs bs → Vals (bs.map fun b => V.ref b.1) vs
  | _, _, .nil => .nil
  | _, _, .cons r t => .cons r (vals_zip t)
theorem zip_reads {X : Cx} {pins : List (Addr × Obj)} {σ : L2.St} {H : Hp} {s : Shared} (I : Inv X pins σ H s) : ∀ {bs : List (Addr × Rc)} {vs : List Value}, Vals (bs.map fun b => V.ref b.1) vs → (∀ b ∈ bs, RecAt X.K H b.1 b.2) →
    PySem.W.EachIs (fun v (b : Addr × Rc) => ∃ as, Reads s.heap v (recDt b.2) as) vs bs
  | [], _, .nil, _ => .nil
  | b :: bs, _, .cons r q, h => .cons (Dp.reads I _ _ _ (RecAt.dp (h b List.mem_cons_self)) r) (zip_reads I q fun u hu => h u (List.mem_cons_of_mem _ hu))
theorem each_mapE {α β γ : Type} {R : α → γ → Prop} (g : β → γ) : ∀ {as : List α} {bs : List β}, PySem.W.EachIs (fun a b => R a (g b)) as bs → PySem.W.EachIs R as (bs.map g)
  | _, _, .nil => .nil
  | _, _, .cons h t => .cons h (each_mapE g t)
section
variable {X : Cx}
theorem call_sortRc (hu : X.A.units + 64 < cLine) : CallR X (.builtin "sorted") (rSortRc X.K) := by
  intro pins s σ H vs us Q I r h
  obtain ⟨a, ts, rs, rfl, hs, hr, hg, hpw, q⟩ := h
  obtain ⟨z1, z2⟩ := zip_s hr.length
  have hb := rts_zip hr
  rw [← z2, List.map_map] at hs
  obtain ⟨its, rv, hl, hz⟩ := I.list hs
  obtain ⟨u, rfl, ru⟩ := vals1 r
  obtain rfl : u = Value.ref a := ru
  rw [List.length_map] at hz
  have hgb : ∀ b ∈ ts.zip rs, RGood b.2 := fun b hb' => hg _ (by rw [← z1]; exact List.mem_map.mpr ⟨b, hb', rfl⟩)
  have hpb : (ts.zip rs).Pairwise fun x y => x.2.o < y.2.o := by
    have z : ((ts.zip rs).map Prod.snd).Pairwise (fun x y : Rc => x.o < y.o) := by rw [z1]; exact hpw
    exact (List.pairwise_map (f := Prod.snd) (R := fun x y : Rc => x.o < y.o)).mp z
  generalize hbs : ts.zip rs = bs at *
  have rv' : Vals (bs.map fun b => V.ref b.1) its := rv
  have ez := zip_vals rv'
  have er := zip_reads I rv' hb
  have hlen : its.length = bs.length := ez.length
  have er' : PySem.W.EachIs (fun v (b : Addr × Rc) => ∃ as, Reads (PySem.W.sortingHeap (PySem.W.copyHeap s.heap its) (s.heap.objs.size + 1) its) v (recDt b.2) as) its bs := er.mono fun _ _ ⟨as, r⟩ => ⟨as, PyProof.Rows.Reads.keeps (fun _ _ => PySem.W.sorting_copy_old) r⟩
  have ho : HeadsOk (bs.map fun b => recDt b.2) := by
    refine ⟨fun d hd => ?_, fun d hd e he c => ?_, fun d hd => ?_⟩
    · obtain ⟨b, _, rfl⟩ := List.mem_map.mp hd
      exact ⟨_, _, rfl⟩
    · obtain ⟨b, hb1, rfl⟩ := List.mem_map.mp hd
      obtain ⟨b', hb2, rfl⟩ := List.mem_map.mp he
      have c' : b.2.o = b'.2.o := c
      obtain ⟨i, hi⟩ := List.mem_iff_getElem?.mp hb1
      obtain ⟨j, hj⟩ := List.mem_iff_getElem?.mp hb2
      obtain ⟨i1, i2⟩ := List.getElem?_eq_some_iff.mp hi
      obtain ⟨j1, j2⟩ := List.getElem?_eq_some_iff.mp hj
      have P := List.pairwise_iff_getElem.mp hpb
      rcases Nat.lt_trichotomy i j with l | l | l
      · have := P i j i1 j1 l; rw [i2, j2] at this; omega
      · subst l; rw [i2] at j2; rw [j2]
      · have := P j i j1 i1 l; rw [i2, j2] at this; omega
    · obtain ⟨b, hb1, rfl⟩ := List.mem_map.mp hd
      refine alike_self _ ?_
      have g := (hgb b hb1).t
      show (true && (true && (true && (true && (true && tupOs (fldD b.2.b)))))) = true
      rw [g]; rfl
  refine PySem.W.sorted_vals hl.isList (sortsHeads (s := { s with heap := PySem.W.sortingHeap (PySem.W.copyHeap s.heap its) (s.heap.objs.size + 1) its }) (each_mapE (fun b : Addr × Rc => recDt b.2) er') ho fun d hd => ?_) (by rw [hlen]; exact hz) ?_
  · obtain ⟨b, hb1, rfl⟩ := List.mem_map.mp hd
    have := (hgb b hb1).dp
    show X.A.units + 2 + (recDt b.2).depth < cLine
    omega
  · have hk : PySem.W.EachIs (fun v (b : Addr × Rc) => (headKind (PySem.W.sortingHeap (PySem.W.copyHeap s.heap its) (s.heap.objs.size + 1) its) (bs.map fun b => recDt b.2)).keyOf v = some (PySem.W.keyToks (.int b.2.o))) its bs :=
      (PySem.W.each_mem er').mono fun v b ⟨⟨as, r⟩, hb1⟩ => headKind_at ho (List.mem_map.mpr ⟨b, hb1, rfl⟩) r
    have eo := PySem.W.sortVals_each (κ := (headKind (PySem.W.sortingHeap (PySem.W.copyHeap s.heap its) (s.heap.objs.size + 1) its) (bs.map fun b => recDt b.2))) (rev := false) (fun b : Addr × Rc => PySem.W.keyToks (.int b.2.o)) ez hk
    have es : bs.mergeSort (PySem.W.sortLe (headKind (PySem.W.sortingHeap (PySem.W.copyHeap s.heap its) (s.heap.objs.size + 1) its) (bs.map fun b => recDt b.2)).toKeyOrd false fun b : Addr × Rc => PySem.W.keyToks (.int b.2.o)) = bs := by
      refine List.mergeSort_of_pairwise (hpb.imp fun {x y} h => ?_)
      show (!PySem.W.dataLt (.int y.2.o) (.int x.2.o)) = true
      rw [PySem.W.dataLt_int, decide_eq_false (by omega)]; rfl
    rw [es] at eo
    generalize PySem.W.sortVals (headKind (PySem.W.sortingHeap (PySem.W.copyHeap s.heap its) (s.heap.objs.size + 1) its) (bs.map fun b => recDt b.2)) false its its = out at eo
    obtain ⟨ep, he'⟩ := sortedAll_at s.heap its out.toArray
    have hv := vals_zip eo
    have hll : (bs.map fun b => V.ref b.1).length ≤ sizeLine := by rw [List.length_map]; exact hz
    have ec : (bs.map fun b => V.ref b.1) = ts.map V.ref := by rw [← z2, List.map_map]; rfl
    refine ⟨.ref _, upd H (s.heap.objs.size + 1) (.lst (bs.map fun b => V.ref b.1)), I.laid (t' := s.toks) (fun _ _ => sortedAll_old) (Nat.le_succ _) ⟨hll, out, ep, hv, he'⟩, rfl, ?_⟩
    rw [ec]
    exact q _ (I.hok.fresh (Nat.le_succ _))
end
end Sg

set_option Elab.async false
set_option linter.all false
set_option maxRecDepth 100000
set_option maxHeartbeats 4000000
namespace Sg
open PySem PySem.Spec PyProof.Rows L2
/-! ### the value of a topic at present -/
def valStep (k : List Key) (v : PyData) (e : Ef) : PyData := if e.1 = goneK (spaceK k) ∧ word k ≠ "gone" ∧ word k ≠ "told" then .none else if e.1 = k then e.2 else v
def valL (rs : List Rc) (k : List Key) : PyData := (effsL rs).foldl (valStep k) .none
theorem valStep_t {k : List Key} {v : PyData} {e : Ef} (hv : tupO v = true) (he : tupO e.2 = true) : tupO (valStep k v e) = true := by
  unfold valStep
  split
  · rfl
  · split
    · exact he
    · exact hv
theorem valF_t {k : List Key} : ∀ {es : List Ef} {v : PyData}, tupO v = true → (∀ e ∈ es, tupO e.2 = true) → tupO (es.foldl (valStep k) v) = true
  | [], _, h, _ => h
  | e :: es, _, h, g => valF_t (es := es) (valStep_t h (g e List.mem_cons_self)) fun x hx => g x (List.mem_cons_of_mem _ hx)
def spLValue (K : PySem.W.Frag) : Sp := fun vs H Q _ => ∃ (a tt : Addr) (ts : List Addr) (rs : List Rc) (k : List Key), vs = [.ref a, .ref tt, .non] ∧ SqL K H a (ts.map V.ref) ∧ Paired (RecAt K H) ts rs ∧ rs.length ≤ 100 ∧ (∀ r ∈ rs, RGood r) ∧ rs.Pairwise (fun x y => x.o < y.o) ∧ TopAt K H tt k ∧ TForm k ∧ KOk k ∧
  ∀ v H', Same H H' → Dp K H' v (valL rs k) → Q v H'
section
variable {P : Program} {wd : World} {K : PySem.W.Frag} {mg : Str → Option Value} {base : Heap} {f fL : Addr} {fd fdL : FuncData}
theorem scLValue : FnScope ["records", "topic", "view", "value", "record", "effect"] ["records", "topic", "view"] (defScope sLValue) := ⟨rfl, rfl, rfl, by decide +kernel, rfl, by decide +kernel, by decide +kernel⟩
theorem ok_lvalue (F : Fun K "_law_value" "_law_value" sLValue f fd) (B : BN mg) (GL : Def P wd K mg base CX0 "_law_effects" 1 ["record"] (spEffB K) fL fdL) : FnOk P wd K mg base CX0 2 f fd ["records", "topic", "view"] (spLValue K) := by
  refine F.ok scLValue (fun vs H Q E h => ?_) (fun cdv A outer s H vs Q E hr h => ?_)
  · obtain ⟨a, tt, ts, rs, k, rfl, _⟩ := h
    rfl
  · obtain ⟨a, tt, ts, rs, k, rfl, ha, hp, hn, hg, hpw, htt, ⟨kw, kn, kr, hk⟩, hko, q⟩ := h
    have hww : word k = kw := by rw [hk]; rfl
    have hss : spaceK k = kn := by rw [hk]; rfl
    have htt' : SqT K H tt (V.str kw :: V.int kn :: kr.map kV) := by
      have z : SqT K H tt (k.map kV) := htt
      rw [hk] at z; exact z
    refine ⟨_, (pss_cons (ps_set (i := 3) scLValue.nd rfl (Or.inl rfl) pe_non)
      (pss_cons (ps_for PassesOwn.never rfl (pi_list (pe_callB (call_sortRc hr.units) (by rfl) B.sorted (by decide +kernel) (pa_cons (pv 0) pa_nil))) (pg_name (i := 4) scLValue.nd rfl (Or.inl rfl))
      (pss_cons (ps_if (PW.pt (pw_and (pt_cmpR op_notN (pv 2) pe_non (nomark _)) (pw_and1 (pt_cmpR op_ge (pe_ix ix_tup (pv 4) pe_int (fun _ _ => rfl)) (pe_ix ix_tup (pv 2) pe_int (fun _ _ => rfl)) (nomark _)))))
      (pss_one ps_break) pss_nil)
      (pss_one (ps_for PassesOwn.never rfl (pi_list (pe_call GL.ok hr (by rfl) GL.mg GL.kp GL.bd .nil pass0 (pa_cons (pv 4) pa_nil))) (pg_name (i := 5) scLValue.nd rfl (Or.inl rfl))
      (Evl.pss_cut (ps_if (pt_cmpR (op_eqD hr.units) (pe_ix ix_tup (pv 5) pe_int (fun _ _ => rfl)) (pv 1) (nomark _))
      (pss_one (ps_set (i := 3) scLValue.nd rfl (Or.inl rfl) (pe_ix ix_tup (pv 5) pe_int (fun _ _ => rfl)))) pss_nil)
      (pss_one (ps_if (PW.pt (pw_and (pt_cmpR (op_eqD hr.units) (pe_ix ix_tup (pv 5) pe_int (fun _ _ => rfl)) (pe_tup (pa_cons pe_str (pa_cons (pe_ix ix_tup (pv 1) pe_int (fun _ _ => rfl)) pa_nil))) (nomark _)) (pw_and1 (pt_cmpR op_notIn_seq (pe_ix ix_tup (pv 1) pe_int (fun _ _ => rfl)) (pe_tup (pa_cons pe_str (pa_cons pe_str pa_nil))) (by rfl)))))
      (pss_one (ps_set (i := 3) scLValue.nd rfl (Or.inl rfl) pe_non)) pss_nil)))))))
      (pss_one (ps_ret (pv 3))))), ?_⟩
    refine ⟨_, rfl, a, ts, rs, rfl, ha, hp, hg, hpw, fun sl hsl => ⟨sl, rfl, ⟨_, SqL.of upd_same⟩, ?_⟩⟩
    have s1 := same_new (o := .lst (ts.map V.ref)) hsl
    have h1 : (upd H sl (.lst (ts.map V.ref))) sl = some (.lst (ts.map V.ref)) := upd_same
    generalize upd H sl (.lst (ts.map V.ref)) = H1 at s1 h1
    have hlen := hp.length
    refine for_list (K := K) (a := sl) (xs := ts.map V.ref) (fun i σ' H' => ∃ (v : V) (v4 v5 : Option V), σ' = [some (.ref a), some (.ref tt), some .non, some v, v4, v5] ∧ Same H1 H' ∧ Dp K H' v (valL (rs.take i) k))
      ⟨_, _, _, rfl, Same.refl H1, .non⟩ (fun i σ' H' _ ⟨_, _, _, _, sm, _⟩ => SqL.of (sm _ _ h1)) ?_ ?_
    · rintro i x σ' H2 hx ⟨v, v4, v5, rfl, sm, dv⟩
      obtain ⟨t, hti, rfl⟩ := map_get hx
      obtain ⟨r, hri, hrt⟩ := paired_at hp hti
      have gr := hg r (List.mem_of_getElem? hri)
      have s12 := s1.trans sm
      have rt := hrt.same s12
      have tk : rs.take (i + 1) = rs.take i ++ [r] := by rw [List.take_add_one, hri]; rfl
      refine ⟨_, rfl, rfl, _, rfl, iteF ⟨_, rfl, t, r, rfl, rt, fun l es H3 s3 hl hl3 pe => ⟨l, rfl, ⟨_, SqL.of hl3⟩, ?_⟩⟩⟩
      have ge := effB_t gr
      have gg := effB_g gr
      have pt : tupO (valL (rs.take i) k) = true := valF_t rfl fun e he => by
        obtain ⟨l', hl', he'⟩ := List.mem_flatten.mp he
        obtain ⟨r', hr', rfl⟩ := List.mem_map.mp hl'
        exact effB_t (hg r' (List.mem_of_mem_take hr')) e he'
      refine for_list (K := K) (a := l) (xs := es.map V.ref) (fun m σ' H' => ∃ (v : V) (v5 : Option V), σ' = [some (.ref a), some (.ref tt), some .non, some v, some (.ref t), v5] ∧ Same H3 H' ∧ Dp K H' v (((effB r.o r.h r.b).take m).foldl (valStep k) (valL (rs.take i) k)))
        ⟨v, v5, rfl, Same.refl H3, by rw [List.take_zero]; exact dp_same s3 _ _ dv⟩ (fun m σ' H' _ ⟨_, _, _, sm', _⟩ => SqL.of (sm' _ _ hl3)) ?_ ?_
      · rintro m x σ' H4 hx ⟨v, v5, rfl, s4, dv4⟩
        obtain ⟨e, hei, rfl⟩ := map_get hx
        obtain ⟨ef, hefi, he⟩ := paired_at pe hei
        have hefm := List.mem_of_getElem? hefi
        have tk4 : (effB r.o r.h r.b).take (m + 1) = (effB r.o r.h r.b).take m ++ [ef] := by rw [List.take_add_one, hefi]; rfl
        obtain ⟨pv0, hpv⟩ : ∃ p, p = ((effB r.o r.h r.b).take m).foldl (valStep k) (valL (rs.take i) k) := ⟨_, rfl⟩
        rw [← hpv] at dv4
        obtain ⟨t1, v1, a1, a2, a3⟩ := he.same s4
        have s14 := (s12.trans s3).trans s4
        have d1 : Dp K H4 (.ref t1) (topD ef.1) := TopAt.dp (SqT.of a2)
        have d2 : Dp K H4 (.ref tt) (topD k) := TopAt.dp (SqT_same s14 htt)
        have fold1 : ∀ (H' : Hp) (v' : V), Same H4 H' → Dp K H' v' (valStep k pv0 ef) → ∃ (v : V) (v5 : Option V), [some (.ref a), some (.ref tt), some .non, some v', some (.ref t), some (.ref e)] = [some (.ref a), some (.ref tt), some .non, some v, some (.ref t), v5] ∧ Same H3 H' ∧ Dp K H' v (((effB r.o r.h r.b).take (m + 1)).foldl (valStep k) (valL (rs.take i) k)) :=
          fun H' v' s' d => ⟨v', _, rfl, s4.trans s', by rw [tk4, List.foldl_append, ← hpv]; exact d⟩
        refine ⟨fun σ H' => ∃ v', σ = [some (.ref a), some (.ref tt), some .non, some v', some (.ref t), some (.ref e)] ∧ H' = H4 ∧ Dp K H4 v' (if ef.1 = k then ef.2 else pv0), ?_, ?_⟩
        · refine ⟨_, rfl, e, _, _, _, rfl, rfl, SqT.of a1, atI_nat (j := 0) rfl, _, rfl, _, _, d1, d2, (topD_g (effB_k _ hefm)).sh (by decide), (topD_g hko).sh (by decide), _, rfl, ?_⟩
          rw [topD_eqv]
          by_cases c : ef.1 = k
          · rw [decide_eq_true c]
            exact iteT ⟨_, rfl, e, _, _, _, rfl, rfl, SqT.of a1, atI_nat (j := 1) rfl, v1, rfl, rfl, by rw [if_pos c]; exact a3⟩
          · rw [decide_eq_false c]
            exact iteF ⟨v, rfl, rfl, by rw [if_neg c]; exact dv4⟩
        · rintro σ H' ⟨v', rfl, rfl, dv'⟩
          have tup' : tupO (if ef.1 = k then ef.2 else pv0) = true := by
            split
            · exact ge _ hefm
            · rw [hpv]; exact valF_t pt fun x hx => ge x (List.mem_of_mem_take hx)
          refine ⟨_, rfl, e, _, _, _, rfl, rfl, SqT.of a1, atI_nat (j := 0) rfl, _, rfl, tt, _, _, _, rfl, rfl, SqT_same s14 htt', atI_nat (j := 1) rfl, by show 2 ≤ sizeLine; decide, fun gt hgt => ?_⟩
          have s5 := same_new (o := .tup [.str "gone", .int kn]) hgt
          have hg5 : (upd H' gt (.tup [.str "gone", .int kn])) gt = some (.tup [.str "gone", .int kn]) := upd_same
          generalize upd H' gt (.tup [.str "gone", .int kn]) = H5 at s5 hg5
          have d3 : Dp K H5 (.ref gt) (topD (goneK kn)) := TopAt.dp (SqT.of hg5)
          refine ⟨_, _, dp_same s5 _ _ d1, d3, (topD_g (effB_k _ hefm)).sh (by decide), (topD_g goneK_ok).sh (by decide), _, rfl, ?_⟩
          rw [topD_eqv]
          by_cases c : ef.1 = goneK kn
          · rw [decide_eq_true c]
            refine iteT ⟨_, rfl, tt, _, _, _, rfl, rfl, SqT_same (s14.trans s5) htt', atI_nat (j := 0) rfl, by show 2 ≤ sizeLine; decide, fun nt hnt => ?_⟩
            have s6 := same_new (o := .tup [.str "gone", .str "told"]) hnt
            have hn6 : (upd H5 nt (.tup [.str "gone", .str "told"])) nt = some (.tup ((["gone", "told"] : List Str).map V.str)) := upd_same
            refine ⟨nt, _, rfl, .inr (SqT.of hn6), rfl, flat_strs, _, rfl, ?_⟩
            rw [inV_str]
            generalize upd H5 nt (.tup [.str "gone", .str "told"]) = H6 at s6
            have s56 := s5.trans s6
            by_cases cw : kw = "gone" ∨ kw = "told"
            · rw [show strIn kw ["gone", "told"] = true by
                unfold strIn
                rcases cw with z | z
                · rw [z]; rfl
                · rw [z]; rfl]
              refine iteF (fold1 H6 v' s56 ?_)
              unfold valStep
              rw [if_neg (fun z => by rw [hww] at z; exact cw.elim z.2.1 z.2.2)]
              exact dp_same s56 _ _ dv'
            · have c1 : ¬ kw = "gone" := fun z => cw (.inl z)
              have c2 : ¬ kw = "told" := fun z => cw (.inr z)
              rw [show strIn kw ["gone", "told"] = false by
                unfold strIn
                rw [List.any_cons, List.any_cons, decide_eq_false (fun z => c1 z.symm), decide_eq_false (fun z => c2 z.symm)]; rfl]
              refine iteT (fold1 H6 .non s56 ?_)
              unfold valStep
              rw [if_pos ⟨by rw [hss]; exact c, by rw [hww]; exact c1, by rw [hww]; exact c2⟩]
              exact .non
          · rw [decide_eq_false c]
            refine iteF (fold1 H5 v' s5 ?_)
            unfold valStep
            rw [if_neg (fun z => by rw [hss] at z; exact c z.1)]
            exact dp_same s5 _ _ dv'
      · rintro σ' H4 ⟨v, v5, rfl, s4, dv4⟩
        have e3 := pe.length
        rw [List.length_map, e3, List.take_length] at dv4
        refine ⟨v, _, _, rfl, (sm.trans s3).trans s4, ?_⟩
        rw [tk]
        unfold valL
        rw [effsL_snoc, List.foldl_append]
        exact dv4
    · rintro σ' H2 ⟨v, v4, v5, rfl, sm, dv⟩
      rw [List.length_map, show ts.length = rs.length from hlen, List.take_length] at dv
      exact ⟨_, rfl, q v H2 (s1.trans sm) dv⟩
end
end Sg

set_option Elab.async false
set_option linter.all false
set_option maxRecDepth 100000
set_option maxHeartbeats 4000000
namespace Sg
open PySem PySem.Spec PyProof.Rows L2
/-! ### the snapshots that exist -/
def thirdK (k : List Key) : Int := match k with
  | _ :: _ :: .inl m :: _ => m
  | _ => 0
def SForm (k : List Key) : Prop := word k = "snap" → ∃ n m, k = [(.inr ("snap" : Str) : Key), .inl n, .inl m]
theorem wne {w : Str} {r : List Key} (h : ¬ w = "snap") : ¬ word (.inr w :: r) = "snap" := h
theorem effB_s {o h : Int} {b : Bd} : ∀ e ∈ effB o h b, SForm e.1 := by
  intro e he hw
  cases b with
  | leave n hb => cases hb <;> simp only [effB, List.mem_cons, List.not_mem_nil, or_false] at he <;> (try rcases he with rfl | rfl) <;> (try subst he) <;> exact absurd hw (wne (by decide))
  | preempt n v w => cases w <;> simp only [effB, List.mem_cons, List.not_mem_nil, or_false] at he <;> (try rcases he with rfl | rfl) <;> (try subst he) <;> exact absurd hw (wne (by decide))
  | _ => simp only [effB, List.mem_cons, List.not_mem_nil, or_false] at he; subst he; first | exact ⟨_, _, rfl⟩ | exact absurd hw (wne (by decide))
theorem foldT_all {p : List Key → Prop} : ∀ {es : List Ef} {ts : Tops}, (∀ k ∈ ts, p k) → (∀ e ∈ es, p e.1) → ∀ k ∈ es.foldl addT ts, p k
  | [], _, h, _ => h
  | e :: es, ts, h, g => by
    refine foldT_all (es := es) (ts := addT ts e) ?_ fun x hx => g x (List.mem_cons_of_mem _ hx)
    unfold addT
    split
    · exact h
    · intro k hk
      rcases List.mem_append.mp hk with hk | hk
      · exact h k hk
      · rw [List.mem_singleton.mp hk]; exact g e List.mem_cons_self
theorem effsL_all {p : Ef → Prop} {rs : List Rc} (h : ∀ r ∈ rs, ∀ e ∈ effB r.o r.h r.b, p e) : ∀ e ∈ effsL rs, p e := by
  intro e he
  obtain ⟨l, hl, he⟩ := List.mem_flatten.mp he
  obtain ⟨r, hr, rfl⟩ := List.mem_map.mp hl
  exact h r hr e he
theorem topicsL_form {rs : List Rc} : ∀ k ∈ topicsL rs, TForm k := foldT_all (by intro k hk; cases hk) (effsL_all fun r _ => effB_form)
theorem topicsL_s {rs : List Rc} : ∀ k ∈ topicsL rs, SForm k := foldT_all (by intro k hk; cases hk) (effsL_all fun r _ => effB_s)
theorem foldT_len : ∀ {es : List Ef} {ts : Tops}, (es.foldl addT ts).length ≤ ts.length + es.length
  | [], _ => Nat.le_refl _
  | e :: es, ts => by
    have h1 := foldT_len (es := es) (ts := addT ts e)
    have h2 : (addT ts e).length ≤ ts.length + 1 := addT_len
    simp only [List.foldl_cons, List.length_cons] at *
    omega
theorem effsL_len : ∀ {rs : List Rc}, (effsL rs).length ≤ 2 * rs.length
  | [] => by simp [effsL]
  | r :: rs => by
    have h1 := effsL_len (rs := rs)
    have h2 : (effB r.o r.h r.b).length ≤ 2 := effB_len
    have e : effsL (r :: rs) = effB r.o r.h r.b ++ effsL rs := by unfold effsL; rw [List.map_cons, List.flatten_cons]
    rw [e, List.length_append, List.length_cons]; omega
theorem topicsL_len {rs : List Rc} : (topicsL rs).length ≤ 2 * rs.length := by
  have h1 := foldT_len (es := effsL rs) (ts := [])
  have h2 := effsL_len (rs := rs)
  unfold topicsL
  simp only [List.length_nil] at h1
  omega
def isView (rs : List Rc) (k : List Key) : Bool := decide (word k = "snap") && !noneQ (valL rs k)
def viewsL (rs : List Rc) : List (Int × Int) := ((topicsL rs).filter (isView rs)).map fun k => (spaceK k, thirdK k)
def PairAt (H : Hp) (p : Addr) (x : Int × Int) : Prop := H p = some (.tup [.int x.1, .int x.2])
def spLViews (K : PySem.W.Frag) : Sp := fun vs H Q _ => ∃ (a : Addr) (ts : List Addr) (rs : List Rc), vs = [.ref a] ∧ SqL K H a (ts.map V.ref) ∧ Paired (RecAt K H) ts rs ∧ rs.length ≤ 100 ∧ (∀ r ∈ rs, RGood r) ∧ rs.Pairwise (fun x y => x.o < y.o) ∧
  ∀ l (ps : List Addr) H', Same H H' → H l = Option.none → H' l = some (.lst (ps.map V.ref)) → Paired (PairAt H') ps (viewsL rs) → Q (.ref l) H'
section
variable {P : Program} {wd : World} {K : PySem.W.Frag} {mg : Str → Option Value} {base : Heap} {f fT fV : Addr} {fd fdT fdV : FuncData}
theorem scLViews : FnScope ["records", "views", "topic"] ["records"] (defScope sLViews) := ⟨rfl, rfl, rfl, by decide +kernel, rfl, by decide +kernel, by decide +kernel⟩
theorem ok_lviews (F : Fun K "_law_views" "_law_views" sLViews f fd) (GT : Def P wd K mg base CX0 "_law_topics" 2 ["records"] (spLTopics K) fT fdT) (GV : Def P wd K mg base CX0 "_law_value" 2 ["records", "topic", "view"] (spLValue K) fV fdV) : FnOk P wd K mg base CX0 3 f fd ["records"] (spLViews K) := by
  refine F.ok scLViews (fun vs H Q E h => ?_) (fun cdv A outer s H vs Q E hr h => ?_)
  · obtain ⟨a, ts, rs, rfl, _⟩ := h
    rfl
  · obtain ⟨a, ts, rs, rfl, ha, hp, hn, hg, hpw, q⟩ := h
    refine ⟨_, (pss_cons (ps_set (i := 1) scLViews.nd rfl (Or.inl rfl) (pe_lst pa_nil))
      (pss_cons (ps_for PassesOwn.never rfl (pi_list (pe_call GT.ok hr (by rfl) GT.mg GT.kp GT.bd .nil pass0 (pa_cons (pv 0) pa_nil))) (pg_name (i := 2) scLViews.nd rfl (Or.inl rfl))
      (pss_one (ps_if (PW.pt (pw_and (pt_cmpR op_eq (pe_ix ix_tup (pv 2) pe_int (fun _ _ => rfl)) pe_str (nomark _)) (pw_and1 (pt_cmpR op_notN (pe_call GV.ok hr (by rfl) GV.mg GV.kp GV.bd .nil pass0 (pa_cons (pv 0) (pa_cons (pv 2) (pa_cons pe_non pa_nil)))) pe_non (nomark _)))))
      (pss_one (ps_expr (pe_bm PySem.F.plainAttrs_list PySem.F.slot_list_append PySem.F.type_list_append mt_append (pv 1) (pa_cons (pe_tup (pa_cons (pe_ix ix_tup (pv 2) pe_int (fun _ _ => rfl)) (pa_cons (pe_ix ix_tup (pv 2) pe_int (fun _ _ => rfl)) pa_nil))) pa_nil)))) pss_nil)))
      (pss_one (ps_ret (pv 1))))), ?_⟩
    refine ⟨by show 0 ≤ sizeLine; decide, fun rl hrl => ?_⟩
    have s1 := same_new (o := .lst []) hrl
    have h1 : (upd H rl (.lst [])) rl = some (.lst []) := upd_same
    generalize upd H rl (.lst []) = H1 at s1 h1
    refine ⟨_, rfl, a, ts, rs, rfl, s1.seq ha, Paired.imp2 (fun _ _ z => z.same s1) hp, hn, hg, fun l qs H2 s2 hl hl2 pt0 => ⟨l, rfl, ⟨_, SqL.of hl2⟩, ?_⟩⟩
    have pt : Paired (TopAt K H2) qs (topicsL rs) := Paired.imp2 (fun _ _ z => SqT.of z) pt0
    have nlr : l ≠ rl := fun e => by rw [e, h1] at hl; cases hl
    have tl := topicsL_len (rs := rs)
    have ql := pt.length
    refine for_list (K := K) (a := l) (xs := qs.map V.ref) (fun i σ' H' => ∃ (v2 : Option V) (ps : List Addr), σ' = [some (.ref a), some (.ref rl), v2] ∧ Same H H' ∧ H' l = some (.lst (qs.map V.ref)) ∧ Paired (TopAt K H') qs (topicsL rs) ∧ H' rl = some (.lst (ps.map V.ref)) ∧ Paired (PairAt H') ps ((((topicsL rs).take i).filter (isView rs)).map fun k => (spaceK k, thirdK k)) ∧ ps.length ≤ i)
      ⟨_, [], rfl, s1.trans s2, hl2, pt, s2 _ _ h1, .nil, Nat.le_refl _⟩ (fun i σ' H' _ ⟨_, _, _, _, hl', _⟩ => SqL.of hl') ?_ ?_
    · rintro i x σ' H3 hx ⟨v2, ps, rfl, sm, hl3, pt3, h3, pr, hpl⟩
      obtain ⟨tt, hti, rfl⟩ := map_get hx
      obtain ⟨k, hki, hk⟩ := paired_at pt3 hti
      have hkm := List.mem_of_getElem? hki
      have hil := (List.getElem?_eq_some_iff.mp hki).1
      have tk : (topicsL rs).take (i + 1) = (topicsL rs).take i ++ [k] := by rw [List.take_add_one, hki]; rfl
      obtain ⟨kw, kn, kr, ek⟩ := topicsL_form k hkm
      have hww : word k = kw := by rw [ek]; rfl
      have hk' : SqT K H3 tt (V.str kw :: V.int kn :: kr.map kV) := by
        have z : SqT K H3 tt (k.map kV) := hk
        rw [ek] at z; exact z
      have no : isView rs k = false → ((((topicsL rs).take (i + 1)).filter (isView rs)).map fun k => (spaceK k, thirdK k)) = ((((topicsL rs).take i).filter (isView rs)).map fun k => (spaceK k, thirdK k)) := fun z => by
        rw [tk, List.filter_append, List.filter_cons, z, if_neg (by decide), List.filter_nil, List.append_nil]
      refine ⟨_, rfl, tt, _, _, _, rfl, rfl, hk', atI_nat (j := 0) rfl, rfl, _, rfl, ?_⟩
      by_cases cw : kw = "snap"
      · rw [cw, str_eqT]
        refine iteT ⟨_, rfl, _, rfl, a, tt, ts, rs, k, rfl, sm.seq ha, Paired.imp2 (fun _ _ z => z.same sm) hp, hn, hg, hpw, hk, topicsL_form k hkm, topicsL_k k hkm, fun v H4 s4 dv => ⟨rfl, _, rfl, ?_⟩⟩
        obtain ⟨n, m, e3⟩ := topicsL_s k hkm (hww.trans cw)
        have hk3 : SqT K H4 tt [V.str "snap", V.int n, V.int m] := by
          have z : SqT K H3 tt (k.map kV) := hk
          rw [e3] at z; exact SqT_same s4 z
        have sm4 := sm.trans s4
        have h4 := s4 _ _ h3
        have hl4 := s4 _ _ hl3
        have pt4 := paired_ttk (TK.of s4) pt3
        have pr4 : Paired (PairAt H4) ps _ := Paired.imp2 (fun _ _ z => s4 _ _ z) pr
        rw [dp_noneQ dv]
        cases hq : noneQ (valL rs k) with
        | true =>
          refine iteF ⟨_, ps, rfl, sm4, hl4, pt4, h4, ?_, by omega⟩
          rw [no (by unfold isView; rw [hq]; simp)]; exact pr4
        | false =>
          have yes : isView rs k = true := by unfold isView; rw [hq, hww, cw]; rfl
          refine iteT ⟨_, rfl, .inl ⟨rfl, _, SqL.of h4⟩, _, rfl, tt, _, _, _, rfl, rfl, hk3, atI_nat (j := 1) rfl, _, rfl, tt, _, _, _, rfl, rfl, hk3, atI_nat (j := 2) rfl, by show 2 ≤ sizeLine; decide, fun p hp' => nil_ ⟨rl, ps.map V.ref, _, rfl, rfl, ?_, ?_, ?_⟩⟩
          · exact same_new hp' _ _ h4
          · rw [List.length_map]; exact small1000 (by omega)
          · obtain ⟨k5, s5, h5, hp5, keep⟩ := push (ob := .tup [.int n, .int m]) sm4 hrl h4 hp'
            refine ⟨_, ps ++ [p], rfl, s5, keep _ _ hl4 nlr, paired_ttk k5 pt4, by rw [List.map_append]; exact h5, ?_, by rw [List.length_append, List.length_singleton]; omega⟩
            rw [tk, List.filter_append, List.filter_cons, yes, if_pos rfl, List.filter_nil, List.map_append]
            refine paired_append (Paired.imp2 (fun _ _ z => k5.t _ _ z) pr4) (.cons ?_ .nil)
            show _ = some (HO.tup [.int (spaceK k), .int (thirdK k)])
            rw [hp5, e3]; rfl
      · rw [str_eqF cw]
        refine iteF ⟨_, ps, rfl, sm, hl3, pt3, h3, ?_, by omega⟩
        rw [no (by unfold isView; rw [hww, decide_eq_false cw]; rfl)]; exact pr
    · rintro σ' H3 ⟨v2, ps, rfl, sm, hl3, pt3, h3, pr, hpl⟩
      rw [List.length_map, ql, List.take_length] at pr
      exact ⟨_, rfl, q rl ps H3 sm hrl h3 pr⟩
end
end Sg

set_option Elab.async false
set_option linter.all false
set_option maxRecDepth 100000
set_option maxHeartbeats 4000000
namespace Sg
open PySem PySem.Spec PyProof.Rows L2
/-! ### d.setdefault(k, x), the keys tuples -/
section
variable {X : Cx} {pins : List (Addr × Obj)} {σ : L2.St} {H : Hp} {s : Shared} {a b : Addr} {r : Value} {d : V} {A : Around} {E : Value → Shared → Prop}
theorem setdT {kvs : List (List Key × V)} {k : List Key} {Q : Value → Shared → Prop} (hu : A.units + 1 < cLine) (I : L2.Inv X pins σ H s) (e : H a = some (.dT kvs)) (eb : H b = some (.tup (k.map kV))) (rd : L2.RelV d r) (hl : kvs.length < sizeLine)
    (h1 : ∀ v, valV kvs k = some v → ∀ (w' : Value) (s' : Shared), L2.Inv X pins σ H s' → L2.RelV v w' → Q w' s') (h2 : valV kvs k = none → ∀ (w' : Value) (s' : Shared), L2.Inv X pins σ (upd H a (.dT (putK kvs k d))) s' → L2.RelV d w' → Q w' s') :
    wpAny (model X.prog X.w) A (call (.builtin "dict.setdefault") [.ref a, .ref b, r]) Q E s := by
  obtain ⟨z, hd, xs, rel, dd⟩ := dt_of I.hok e
  have hz : xs.length ≤ sizeLine := by rw [← Paired.length rel]; exact z
  have hl2 : (putK kvs k d).length ≤ sizeLine := by have := length_putK kvs k d; omega
  refine call_setdefault_heap (hsz := hz) (tupleKind_room_in1 hu) (key_of I.hok eb) hd dd (fun p hp => ?_) fun hn h' dd' hs => ?_
  · have q := rel.val k
    rw [hp] at q
    cases q0 : valV kvs k with
    | none =>
      rw [q0] at q
      exact (show False from q).elim
    | some v0 =>
      rw [q0] at q
      exact h1 v0 q0 _ _ (I.tok _) q
  · have q := rel.val k
    rw [hn] at q
    cases q0 : valV kvs k with
    | some v0 =>
      rw [q0] at q
      exact (show False from q).elim
    | none =>
      obtain ⟨o, es, ep, hq, h2', h3, h4, _, h5⟩ := dd'
      refine h2 q0 _ _ (d_write I (by rw [e]; exact True.intro) hs ⟨o, hq⟩ ⟨hl2, hd, _, (rel.put k eb rd).keeps fun c ys ec => ?_, o, es, ep, hq, h2', h3, h4, h5⟩) rd
      rw [upd_ne (ne_of ec e (fun z => nomatch z))]
      exact ec
end
def tDSetdT (td ty tx : TE) : TE := fun σ H Q => td σ H fun x H1 => ∃ a, x = .ref a ∧ IsD H1 a ∧ ty σ H1 fun y H2 => tx σ H2 fun z H3 => ∃ (kvs : List (List Key × V)) (k : List Key) (b : Addr), H3 a = some (.dT kvs) ∧ y = .ref b ∧ H3 b = some (.tup (k.map kV)) ∧ kvs.length < sizeLine ∧
  (∀ v, valV kvs k = some v → Q v H3) ∧ (valV kvs k = none → Q z (upd H3 a (.dT (putK kvs k z))))
section
variable {X : Cx} {o e f : Expr} {td ty tx : TE} {apos cpos : Pos}
theorem pe_dsetdT (hu : X.A.units + 1 < cLine) (ho : PE X o td) (he : PE X e ty) (hf : PE X f tx) (m : M2 X o "setdefault" apos e f cpos) : PE X (.Call (.Attribute o "setdefault" apos) [e, f] [] cpos) (tDSetdT td ty tx) := by
  refine ⟨fun pins s σ H Q I h => ?_⟩
  refine wpAny_Call_method m.base m.few m.line PySem.F.plainAttrs_dict PySem.F.slot_dict_setdefault PySem.F.type_dict_setdefault (thn (ho.run pins s σ H _ I h) fun u s1 ⟨x, H1, I1, rx, a, ex, d, q1⟩ => ?_)
  subst ex
  obtain rfl : u = Value.ref a := rx
  obtain ⟨t1, t2, _⟩ := isD_at I1 d
  refine ⟨t1, t2, ?_⟩
  rw [m.trees]
  refine Calls.callWith_builtin rfl (Calls.evalArgs_plain (Calls.spliced_cons (thn (he.run pins s1 σ H1 _ I1 q1) fun iv s2 ⟨y, H2, I2, ry, q2⟩ =>
    Calls.spliced_cons (thn (hf.run pins s2 σ H2 _ I2 q2) fun fv s3 ⟨z, H3, I3, rz, kvs, k, b, ea, ey, eb, hl, q3, q4⟩ => Calls.spliced_nil ?_))))
  subst ey
  obtain rfl : iv = Value.ref b := ry
  exact setdT hu I3 ea eb rz hl (fun v hv w' s4 I4 rw' => ⟨v, _, I4, rw', q3 v hv⟩) fun hn w' s4 I4 rw' => ⟨z, _, I4, rw', q4 hn⟩
end
end Sg

set_option Elab.async false
set_option linter.all false
set_option maxRecDepth 100000
set_option maxHeartbeats 4000000
namespace Sg
open PySem PySem.Spec PyProof.Rows L2
/-! ### what is kept of a list, by a list of truths -/
def keepB {α : Type} : List α → List Bool → List α
  | x :: xs, b :: bs => if b = true then x :: keepB xs bs else keepB xs bs
  | _, _ => []
theorem keepB_take {α : Type} : ∀ {xs : List α} {bs : List Bool} {i : Nat} {x : α} {b : Bool}, xs[i]? = some x → bs[i]? = some b → keepB (xs.take (i + 1)) (bs.take (i + 1)) = keepB (xs.take i) (bs.take i) ++ (if b = true then [x] else [])
  | [], _, _, _, _, h, _ => by cases h
  | _ :: _, [], _, _, _, _, h => by cases h
  | y :: xs, c :: bs, 0, x, b, h, g => by
    cases h; cases g
    cases c <;> simp [keepB]
  | y :: xs, c :: bs, i + 1, x, b, h, g => by
    have ih := keepB_take (xs := xs) (bs := bs) (i := i) (x := x) (b := b) (by simpa using h) (by simpa using g)
    rw [List.take_succ_cons, List.take_succ_cons, List.take_succ_cons, List.take_succ_cons]
    cases c <;> simp [keepB, ih]
theorem keepB_len {α : Type} : ∀ {xs : List α} {bs : List Bool}, (keepB xs bs).length ≤ xs.length
  | [], _ => by simp [keepB]
  | _ :: _, [] => by simp [keepB]
  | y :: xs, c :: bs => by
    have := keepB_len (xs := xs) (bs := bs)
    cases c <;> simp [keepB] <;> omega
theorem keepB_paired {β : Type} {F : Addr → β → Prop} {p : β → Bool} : ∀ {ts : List Addr} {rs : List β}, Paired F ts rs → ∃ ts' : List Addr, keepB (ts.map V.ref) (rs.map p) = ts'.map V.ref ∧ Paired F ts' (rs.filter p)
  | _, _, .nil => ⟨[], rfl, .nil⟩
  | _, _, .cons (a := t) (b := r) h g => by
    obtain ⟨ts', e, pr⟩ := keepB_paired (p := p) g
    cases c : p r with
    | true => exact ⟨t :: ts', by simp only [List.map_cons, keepB, c, if_pos, e], by rw [List.filter_cons, c, if_pos rfl]; exact .cons h pr⟩
    | false => exact ⟨ts', by simp only [List.map_cons, keepB, c, Bool.false_eq_true, if_false, e], by rw [List.filter_cons, c, if_neg (by decide)]; exact pr⟩
/-- [x for x in a list if ..], the truths written beside -/
theorem lc_filtB {K : PySem.W.Frag} {σ : L2.St} {H1 : Hp} {D a : Addr} {vs : List Nat} {j : Nat} {xs : List V} {tt : TT} {te : TE} {Qd : Hp → Prop} (bs : List Bool) (hb : bs.length = xs.length) (hD : H1 D = Option.none) (hx : SqL K H1 a xs) (hw : ∀ x, wipe ((wipe σ vs).set j (some x)) vs = wipe σ vs) (hz : xs.length ≤ sizeLine)
    (he : ∀ (i : Nat) (x : V) (b : Bool) (H' : Hp) (Q' : Bool → Hp → Prop), xs[i]? = some x → bs[i]? = some b → Same H1 H' → (∀ H'', Same H' H'' → Q' b H'') → tt ((wipe σ vs).set j (some x)) H' Q')
    (hv : ∀ (x : V) (H' : Hp) (Q' : VK), x ∈ xs → Q' x H' → te ((wipe σ vs).set j (some x)) H' Q')
    (hd : ∀ H', Same H1 H' → H' D = some (.lst (keepB xs bs)) → Qd H') :
    ∃ W : Nat → Nat → Hp → Prop, (∃ m, W 0 m (upd H1 D (.lst []))) ∧ ∀ i m H, W i m H →
      ((Itl K a).stop i H ∧ Qd H) ∨ ((Itl K a).go i H ∧ ∃ Nx : Hp → Prop, (∀ H', Nx H' → ∃ m', m' < m ∧ W (i + 1) m' H') ∧ ∀ x H', (Itl K a).yld i H x H' → gName j x (wipe σ vs) H' fun σ2 H2 => wipe σ2 vs = wipe σ vs ∧ tt σ2 H2 fun b H3 =>
        if b = true then te σ2 H3 fun y H4 => ∃ acc, H4 D = some (.lst acc) ∧ acc.length < sizeLine ∧ Nx (upd H4 D (.lst (acc ++ [y]))) else Nx H3) := by
  refine lc_list (K := K) (a := a) (xs := xs) (fun i H' => i ≤ xs.length ∧ Same H1 H' ∧ H' D = some (.lst (keepB (xs.take i) (bs.take i)))) ⟨Nat.zero_le _, same_new hD, by rw [List.take_zero, List.take_zero]; exact upd_same⟩ (fun i H' _ ⟨_, sm, _⟩ => sm.seq hx) ?_ ?_
  · rintro i x H' hi ⟨_, sm, hDl⟩
    have hil := (List.getElem?_eq_some_iff.mp hi).1
    have hm := List.mem_of_getElem? hi
    obtain ⟨b, hbi⟩ : ∃ b, bs[i]? = some b := ⟨bs[i]'(by omega), List.getElem?_eq_getElem (by omega)⟩
    refine ⟨hw _, he i x b H' _ hi hbi sm fun H'' s2 => ?_⟩
    have hD2 := s2 _ _ hDl
    have hlen : (keepB (xs.take i) (bs.take i)).length ≤ i := Nat.le_trans keepB_len (by rw [List.length_take]; omega)
    have tk := keepB_take hi hbi
    cases b with
    | true =>
      rw [if_pos rfl]
      rw [if_pos rfl] at tk
      refine hv x H'' _ hm ⟨_, hD2, by omega, by omega, ?_, ?_⟩
      · intro y o hy'
        rw [upd_ne (ne_of_none hy' hD)]
        exact s2 _ _ (sm _ _ hy')
      · rw [upd_same, tk]
    | false =>
      rw [if_neg Bool.false_ne_true]
      rw [if_neg Bool.false_ne_true, List.append_nil] at tk
      refine ⟨by omega, sm.trans s2, ?_⟩
      rw [hD2, tk]
  · rintro H' ⟨_, sm, hDl⟩
    refine hd H' sm ?_
    rw [List.take_length, ← hb, List.take_length] at hDl
    exact hDl
/-! ### the last order of a host -/
theorem snocInd {α : Type} {p : List α → Prop} (h0 : p []) (hs : ∀ l a, p l → p (l ++ [a])) (l : List α) : p l := by
  have : ∀ m : List α, p m.reverse := by
    intro m
    induction m with
    | nil => exact h0
    | cons a t ih => rw [List.reverse_cons]; exact hs _ _ ih
  have z := this l.reverse
  rw [List.reverse_reverse] at z; exact z
def lastO (rs : List Rc) (h : Int) : Option Int := rs.foldl (fun a r => if r.h = h then some r.o else a) none
theorem lastO_snoc {rs : List Rc} {r : Rc} {h : Int} : lastO (rs ++ [r]) h = if r.h = h then some r.o else lastO rs h := by
  unfold lastO
  rw [List.foldl_append]; rfl
theorem lastO_iff {h o : Int} : ∀ {rs : List Rc}, rs.Pairwise (fun x y => x.o < y.o) → (lastO rs h = some o ↔ ∃ r ∈ rs, r.h = h ∧ r.o = o ∧ ∀ q ∈ rs, q.h = h → q.o ≤ o) := by
  intro rs
  refine snocInd (p := fun rs => rs.Pairwise (fun x y => x.o < y.o) → (lastO rs h = some o ↔ ∃ r ∈ rs, r.h = h ∧ r.o = o ∧ ∀ q ∈ rs, q.h = h → q.o ≤ o)) ?_ ?_ rs
  · intro _; simp [lastO]
  · intro rs r ih hp
    rw [List.pairwise_append] at hp
    obtain ⟨h1, _, h2⟩ := hp
    have lt : ∀ q ∈ rs, q.o < r.o := fun q hq => h2 q hq r (by simp)
    rw [lastO_snoc]
    by_cases c : r.h = h
    · rw [if_pos c]
      constructor
      · intro e
        cases e
        refine ⟨r, by simp, c, rfl, fun q hq _ => ?_⟩
        rcases List.mem_append.mp hq with hq | hq
        · exact Int.le_of_lt (lt q hq)
        · rw [List.mem_singleton.mp hq]; exact Int.le_refl _
      · rintro ⟨q, hq, qh, qo, all⟩
        rcases List.mem_append.mp hq with hq | hq
        · have a := lt q hq
          have b := all r (by simp) c
          omega
        · rw [← qo, List.mem_singleton.mp hq]
    · rw [if_neg c, ih h1]
      constructor
      · rintro ⟨q, hq, qh, qo, all⟩
        refine ⟨q, List.mem_append.mpr (.inl hq), qh, qo, fun p hp ph => ?_⟩
        rcases List.mem_append.mp hp with hp | hp
        · exact all p hp ph
        · rw [List.mem_singleton.mp hp] at ph; exact absurd ph c
      · rintro ⟨q, hq, qh, qo, all⟩
        rcases List.mem_append.mp hq with hq | hq
        · exact ⟨q, hq, qh, qo, fun p hp ph => all p (List.mem_append.mpr (.inl hp)) ph⟩
        · rw [List.mem_singleton.mp hq] at qh; exact absurd qh c
/-! ### what is live -/
def HostP (rs : List Rc) (o : Int) : Prop := ∃ h, lastO rs h = some o
def TopP (rs : List Rc) (ws : List (Int × Int)) (k : List Key) (o : Int) : Prop := o ∈ byTop rs k none ∨ (word k = "place" ∧ ∃ v ∈ ws, spaceK k = v.1 ∧ o ∈ byTop rs k (some v))
def GoneR (rs : List Rc) (r : Rc) : Prop := ∃ n, r.b = .remove n ∧ (∃ q ∈ rs, q.o < r.o ∧ memberR q n = true) ∧ ∀ q ∈ rs, q.o > r.o → ¬ q.b = .remove n
def LiveP (rs : List Rc) (ws : List (Int × Int)) (o : Int) : Prop := HostP rs o ∨ (∃ k ∈ topicsL rs, TopP rs ws k o) ∨ ∃ r ∈ rs, r.o = o ∧ GoneR rs r
open Classical in
noncomputable def liveL (rs : List Rc) (ws : List (Int × Int)) : List Rc := rs.filter fun r => decide (LiveP rs ws r.o)
theorem byTop_len {rs : List Rc} {k : List Key} {w : Vw} : (byTop rs k w).length ≤ 1 := by
  unfold byTop
  split
  · simp
  · split
    · simp
    · split <;> simp
theorem inV_int {o : Int} : ∀ {os : List Int}, inV (.int o) (os.map V.int) = decide (o ∈ os)
  | [] => rfl
  | n :: os => by
    show (eqV (.int n) (.int o) || inV (.int o) (os.map V.int)) = decide (o ∈ n :: os)
    rw [inV_int (os := os)]
    have e : eqV (.int n) (.int o) = decide (n = o) := by
      first | rfl | (show decide _ = decide _; simp) | simp [eqV]
    rw [e]
    by_cases c : n = o
    · rw [decide_eq_true c, decide_eq_true (show o ∈ n :: os by rw [c]; exact List.mem_cons_self)]; rfl
    · rw [decide_eq_false c, Bool.false_or]
      by_cases d : o ∈ os
      · rw [decide_eq_true d, decide_eq_true (List.mem_cons_of_mem _ d)]
      · rw [decide_eq_false d, decide_eq_false fun z => (List.mem_cons.mp z).elim (fun y => c y.symm) d]
theorem flat_ints : ∀ {os : List Int}, (os.map V.int).all flatV = true
  | [] => rfl
  | n :: os => by rw [List.map_cons, List.all_cons, flat_ints (os := os)]; rfl
def spLLive (K : PySem.W.Frag) : Sp := fun vs H Q _ => ∃ (a wv : Addr) (ts vp : List Addr) (rs : List Rc) (ws : List (Int × Int)), vs = [.ref a, .ref wv] ∧ SqL K H a (ts.map V.ref) ∧ Paired (RecAt K H) ts rs ∧ rs.length ≤ 100 ∧ (∀ r ∈ rs, RGood r) ∧ rs.Pairwise (fun x y => x.o < y.o) ∧ SqL K H wv (vp.map V.ref) ∧ Paired (PairAt H) vp ws ∧ ws.length ≤ 200 ∧
  ∀ l ts' H', Same H H' → H l = Option.none → H' l = some (.lst (ts'.map V.ref)) → Paired (RecAt K H') ts' (liveL rs ws) → Q (.ref l) H'
theorem recs_dp {K : PySem.W.Frag} {H : Hp} : ∀ {ts : List Addr} {rs : List Rc}, Paired (RecAt K H) ts rs → DpAll K H (ts.map V.ref) (rs.map recDt)
  | _, _, .nil => .nil
  | _, _, .cons a b => .cons (RecAt.dp a) (recs_dp b)
theorem recs_lay : ∀ {rs : List Rc}, (∀ r ∈ rs, RGood r) → PyData.canLayAll0 (rs.map recDt) = true ∧ PyData.depthAll (rs.map recDt) ≤ 60
  | [], _ => ⟨by simp [PyData.canLayAll0], by simp [PyData.depthAll]⟩
  | r :: rs, h => by
    obtain ⟨i1, i2⟩ := recs_lay (rs := rs) fun x hx => h x (List.mem_cons_of_mem _ hx)
    have g := h r List.mem_cons_self
    refine ⟨by simp only [List.map_cons, PyData.canLayAll0, i1, g.l, Bool.and_self], ?_⟩
    have := g.dp
    simp only [List.map_cons, PyData.depthAll]
    exact Nat.max_le.mpr ⟨g.dp, i2⟩
theorem recs_sh {rs : List Rc} (h : ∀ r ∈ rs, RGood r) : SeqAt.shaped (.list (rs.map recDt)) = true := shaped_list (recs_lay h).1 (Nat.le_trans (recs_lay h).2 (by decide))
theorem recs_nil {rs : List Rc} : PyData.eqv (.list (rs.map recDt)) (.list []) = rs.isEmpty := by
  cases rs with
  | nil => simp [PyData.eqv, PyData.eqvAll]
  | cons => simp [PyData.eqv, PyData.eqvAll]
theorem filt_ne {rs : List Rc} {p : Rc → Bool} : (!(rs.filter p).isEmpty) = true ↔ ∃ r ∈ rs, p r = true := by
  rw [Bool.not_eq_true', List.isEmpty_eq_false_iff_exists_mem]
  constructor
  · rintro ⟨r, hr⟩; exact ⟨r, List.mem_filter.mp hr⟩
  · rintro ⟨r, a, b⟩; exact ⟨r, List.mem_filter.mpr ⟨a, b⟩⟩
theorem kind_remove {b : Bd} : kindS b = "remove" ↔ ∃ n, b = .remove n := by
  cases b with
  | remove n => exact ⟨fun _ => ⟨n, rfl⟩, fun _ => rfl⟩
  | _ => exact ⟨fun h => absurd h (by dsimp only [kindS]; decide), fun ⟨_, h⟩ => nomatch h⟩
def isRem (b : Bd) (n : Int) : Bool := match b with
  | .remove m => decide (m = n)
  | _ => false
theorem isRem_iff {b : Bd} {n : Int} : isRem b n = true ↔ b = .remove n := by
  cases b with
  | remove m =>
    show decide (m = n) = true ↔ _
    rw [decide_eq_true_iff]
    exact ⟨fun h => by rw [h], fun h => by cases h; rfl⟩
  | _ => exact ⟨fun h => (Bool.false_ne_true h).elim, fun h => nomatch h⟩
theorem isRem_no {b : Bd} {n : Int} (h : ¬ kindS b = "remove") : isRem b n = false := by
  cases b with
  | remove m => exact absurd rfl h
  | _ => rfl
end Sg

set_option Elab.async false
set_option linter.all false
set_option maxRecDepth 100000
set_option maxHeartbeats 4000000
namespace Sg
open PySem PySem.Spec PyProof.Rows L2
/-! ### the value of a topic, by its rows -/
theorem kne1 {w v : Str} {r s : List Key} (h : ¬ w = v) : ¬ ((Sum.inr w :: r : List Key) = Sum.inr v :: s) := fun z => h (by injection z with a b; injection a)
theorem effB_two {o h : Int} {b : Bd} : (∃ e, effB o h b = [e]) ∨ (∃ e1 e2, effB o h b = [e1, e2] ∧ e1.1 ≠ e2.1 ∧ (∀ n, e1.1 ≠ goneK n) ∧ ∀ n, e2.1 ≠ goneK n) := by
  cases b with
  | leave n hb =>
    cases hb
    · exact .inl ⟨_, rfl⟩
    · exact .inr ⟨_, _, rfl, kne1 (by decide), fun n => kne1 (by decide), fun n => kne1 (by decide)⟩
  | preempt n v w =>
    cases w
    · exact .inl ⟨_, rfl⟩
    · exact .inr ⟨_, _, rfl, kne1 (by decide), fun n => kne1 (by decide), fun n => kne1 (by decide)⟩
  | _ => exact .inl ⟨_, rfl⟩
theorem rowsL_snoc {rs : List Rc} {r : Rc} {k : List Key} : rowsL (rs ++ [r]) k = rowsL rs k ++ rowsE r.o k (effB r.o r.h r.b) := by
  unfold rowsL
  rw [List.map_append, List.flatten_append]
  show _ ++ (rowsE r.o k (effB r.o r.h r.b) ++ []) = _
  rw [List.append_nil]
theorem rowsE_one {o : Int} {k : List Key} {e : Ef} : rowsE o k [e] = if e.1 = k then [(o, e.2)] else [] := by
  unfold rowsE
  by_cases c : e.1 = k
  · rw [List.filterMap_cons, if_pos c, if_pos c]; rfl
  · rw [List.filterMap_cons, if_neg c, if_neg c]; rfl
theorem rowsE_two {o : Int} {k : List Key} {e f : Ef} : rowsE o k [e, f] = rowsE o k [e] ++ rowsE o k [f] := by
  unfold rowsE
  rw [← List.filterMap_append]; rfl
/-- a record brings a topic at most one row -/
theorem rowsE_le {o h : Int} {b : Bd} {k : List Key} : (rowsE o k (effB o h b)).length ≤ 1 := by
  rcases effB_two (o := o) (h := h) (b := b) with ⟨e, he⟩ | ⟨e, f, he, ne, _, _⟩
  · rw [he, rowsE_one]; split <;> simp
  · rw [he, rowsE_two, rowsE_one, rowsE_one]
    by_cases c : e.1 = k
    · rw [if_pos c, if_neg fun z => ne (c.trans z.symm)]; simp
    · rw [if_neg c]; split <;> simp
theorem rowsE_o {o : Int} {k : List Key} {es : List Ef} : ∀ x ∈ rowsE o k es, x.1 = o := by
  intro x hx
  obtain ⟨e, he, h⟩ := List.mem_filterMap.mp hx
  split at h
  · cases h; rfl
  · cases h
theorem rowsL_mem {rs : List Rc} {k : List Key} : ∀ x ∈ rowsL rs k, ∃ r ∈ rs, x.1 = r.o := by
  intro x hx
  obtain ⟨l, hl, hx⟩ := List.mem_flatten.mp hx
  obtain ⟨r, hr, rfl⟩ := List.mem_map.mp hl
  exact ⟨r, hr, rowsE_o x hx⟩
theorem asc_snoc {rs : List Rc} {r : Rc} (h : (rs ++ [r]).Pairwise (fun x y => x.o < y.o)) : rs.Pairwise (fun x y => x.o < y.o) ∧ ∀ q ∈ rs, q.o < r.o := by
  rw [List.pairwise_append] at h
  exact ⟨h.1, fun q hq => h.2.2 q hq r (by simp)⟩
theorem rowsL_asc {k : List Key} {rs : List Rc} : rs.Pairwise (fun x y => x.o < y.o) → (rowsL rs k).Pairwise (fun x y => x.1 < y.1) := by
  refine snocInd (p := fun rs => rs.Pairwise (fun x y => x.o < y.o) → (rowsL rs k).Pairwise (fun x y => x.1 < y.1)) (fun _ => List.Pairwise.nil) (fun rs r ih hp => ?_) rs
  obtain ⟨h1, h2⟩ := asc_snoc hp
  rw [rowsL_snoc, List.pairwise_append]
  refine ⟨ih h1, ?_, fun x hx y hy => ?_⟩
  · have := rowsE_le (o := r.o) (h := r.h) (b := r.b) (k := k)
    match hm : rowsE r.o k (effB r.o r.h r.b), this with
    | [], _ => exact .nil
    | [x], _ => simp
    | _ :: _ :: _, h => simp at h
  · obtain ⟨q, hq, e⟩ := rowsL_mem x hx
    rw [e, rowsE_o y hy]
    exact h2 q hq
def valQ (rs : List Rc) (k : List Key) : PyData := match (rowsL rs k).getLast? with
  | none => .none
  | some x => if hidL rs k x.1 none = true then .none else x.2
theorem hidL_snoc {rs : List Rc} {r : Rc} {k : List Key} {o : Int} (hw : word k ≠ "told") : hidL (rs ++ [r]) k o none = (hidL rs k o none || (rowsE r.o (goneK (spaceK k)) (effB r.o r.h r.b)).any fun x => decide (o < x.1)) := by
  unfold hidL
  rw [if_neg hw, if_neg hw, rowsL_snoc, List.any_append]
  congr 1
  · show _ = (rowsE r.o (goneK (spaceK k)) (effB r.o r.h r.b)).any _
    congr 1
    funext x
    show (decide (o < x.1) && true) = decide (o < x.1)
    rw [Bool.and_true]
theorem goneE_none {o : Int} {n : Int} {es : List Ef} (h : ∀ e ∈ es, e.1 ≠ goneK n) : rowsE o (goneK n) es = [] := by
  unfold rowsE
  rw [List.filterMap_eq_nil_iff]
  intro e he
  rw [if_neg (h e he)]
theorem hidL_fresh {rs : List Rc} {k : List Key} {o : Int} (h : ∀ q ∈ rs, q.o < o) : hidL rs k o none = false := by
  unfold hidL
  split
  · rfl
  · rw [List.any_eq_false]
    intro x hx
    obtain ⟨q, hq, e⟩ := rowsL_mem x hx
    have := h q hq
    rw [e, decide_eq_false (by omega)]; simp
theorem valL_eq {k : List Key} (hw : word k ≠ "gone") (hw2 : word k ≠ "told") {rs : List Rc} : rs.Pairwise (fun x y => x.o < y.o) → valL rs k = valQ rs k := by
  refine snocInd (p := fun rs => rs.Pairwise (fun x y => x.o < y.o) → valL rs k = valQ rs k) (fun _ => rfl) (fun rs r ih hp => ?_) rs
  obtain ⟨h1, h2⟩ := asc_snoc hp
  have ih := ih h1
  have kG : k ≠ goneK (spaceK k) := fun e => hw (by rw [e]; rfl)
  have e0 : valL (rs ++ [r]) k = (effB r.o r.h r.b).foldl (valStep k) (valL rs k) := by
    unfold valL; rw [effsL_snoc, List.foldl_append]
  have st1 : ∀ (v : PyData) (e : Ef), e.1 = goneK (spaceK k) → valStep k v e = .none := fun v e h => by unfold valStep; rw [if_pos ⟨h, hw, hw2⟩]
  have st2 : ∀ (v : PyData) (e : Ef), e.1 = k → valStep k v e = e.2 := fun v e h => by
    unfold valStep; rw [if_neg (fun z => kG (h.symm.trans z.1)), if_pos h]
  have st3 : ∀ (v : PyData) (e : Ef), e.1 ≠ goneK (spaceK k) → e.1 ≠ k → valStep k v e = v := fun v e h h' => by
    unfold valStep; rw [if_neg (fun z => h z.1), if_neg h']
  have same : (∀ e ∈ effB r.o r.h r.b, e.1 ≠ goneK (spaceK k)) → rowsE r.o k (effB r.o r.h r.b) = [] → valQ (rs ++ [r]) k = valQ rs k := fun g e => by
    unfold valQ
    rw [rowsL_snoc, e, List.append_nil]
    cases hx : (rowsL rs k).getLast? with
    | none => rfl
    | some x =>
      dsimp only
      rw [hidL_snoc hw2, goneE_none g, List.any_nil, Bool.or_false]
  have hit : ∀ d, (∀ e ∈ effB r.o r.h r.b, e.1 ≠ goneK (spaceK k)) → rowsE r.o k (effB r.o r.h r.b) = [(r.o, d)] → valQ (rs ++ [r]) k = d := fun d g e => by
    unfold valQ
    rw [rowsL_snoc, e, List.getLast?_concat]
    dsimp only
    rw [hidL_snoc hw2, goneE_none g, List.any_nil, Bool.or_false, hidL_fresh h2, if_neg (by decide)]
  rw [e0]
  rcases effB_two (o := r.o) (h := r.h) (b := r.b) with ⟨e, he⟩ | ⟨e, f, he, ne, ge, gf⟩
  · rw [he, List.foldl_cons, List.foldl_nil]
    by_cases c1 : e.1 = goneK (spaceK k)
    · rw [st1 _ _ c1]
      unfold valQ
      have en : rowsE r.o k (effB r.o r.h r.b) = [] := by rw [he, rowsE_one, if_neg fun z => kG (z.symm.trans c1)]
      rw [rowsL_snoc, en, List.append_nil]
      cases hx : (rowsL rs k).getLast? with
      | none => rfl
      | some x =>
        dsimp only
        obtain ⟨q, hq, eq⟩ := rowsL_mem x (List.mem_of_getLast? hx)
        have lt := h2 q hq
        rw [hidL_snoc hw2, he, rowsE_one, if_pos c1, List.any_cons, decide_eq_true (show x.1 < r.o by omega), Bool.true_or, Bool.or_true, if_pos rfl]
    · by_cases c2 : e.1 = k
      · rw [st2 _ _ c2, hit e.2 (by rw [he]; intro x hx; rw [List.mem_singleton.mp hx]; exact c1) (by rw [he, rowsE_one, if_pos c2])]
      · rw [st3 _ _ c1 c2, ih, same (by rw [he]; intro x hx; rw [List.mem_singleton.mp hx]; exact c1) (by rw [he, rowsE_one, if_neg c2])]
  · rw [he, List.foldl_cons, List.foldl_cons, List.foldl_nil]
    have ng : ∀ x ∈ effB r.o r.h r.b, x.1 ≠ goneK (spaceK k) := by
      rw [he]; intro x hx
      rcases List.mem_cons.mp hx with rfl | hx
      · exact ge _
      · rw [List.mem_singleton.mp hx]; exact gf _
    by_cases c1 : e.1 = k
    · have c2 : f.1 ≠ k := fun z => ne (c1.trans z.symm)
      rw [st3 _ f (gf _) c2, st2 _ _ c1, hit e.2 ng (by rw [he, rowsE_two, rowsE_one, rowsE_one, if_pos c1, if_neg c2]; rfl)]
    · rw [st3 _ e (ge _) c1]
      by_cases c2 : f.1 = k
      · rw [st2 _ _ c2, hit f.2 ng (by rw [he, rowsE_two, rowsE_one, rowsE_one, if_neg c1, if_pos c2]; rfl)]
      · rw [st3 _ f (gf _) c2, ih, same ng (by rw [he, rowsE_two, rowsE_one, rowsE_one, if_neg c1, if_neg c2]; rfl)]
/-! ### sorted pairs -/
abbrev IP := Int × Int
def SrtP (l : List IP) : Prop := l.Pairwise fun x y => SrtO.lexB y x = false
theorem pairs_at {H : Hp} : ∀ {ps : List Addr} {xs : List IP}, Paired (PairAt H) ps xs → ∃ k : V → Int × Int, ps.map (fun p => k (.ref p)) = xs ∧ ∀ p ∈ ps, H p = some (.tup [.int (k (.ref p)).1, .int (k (.ref p)).2]) := by
  intro ps xs h
  refine ⟨fun v => match v with
    | .ref p => match H p with
      | some (.tup [.int i, .int j]) => (i, j)
      | _ => (0, 0)
    | _ => (0, 0), ?_⟩
  induction h with
  | nil => exact ⟨rfl, fun p hp => nomatch hp⟩
  | @cons p x ps xs a b ih =>
    have e : (match H p with
      | some (.tup [.int i, .int j]) => (i, j)
      | _ => ((0, 0) : Int × Int)) = x := by rw [a]
    refine ⟨?_, fun q hq => ?_⟩
    · rw [List.map_cons]; dsimp only
      rw [e]
      exact congrArg _ ih.1
    · rcases List.mem_cons.mp hq with rfl | hq
      · dsimp only; rw [e]; exact a
      · exact ih.2 q hq
theorem paired_of {H : Hp} {k : V → Int × Int} : ∀ {ps : List Addr}, (∀ p ∈ ps, H p = some (.tup [.int (k (.ref p)).1, .int (k (.ref p)).2])) → Paired (PairAt H) ps (ps.map fun p => k (.ref p))
  | [], _ => .nil
  | p :: ps, h => .cons (h p List.mem_cons_self) (paired_of fun q hq => h q (List.mem_cons_of_mem _ hq))
theorem refs_perm : ∀ {ys : List V} {ps : List Addr}, ys.Perm (ps.map V.ref) → ∃ qs : List Addr, ys = qs.map V.ref ∧ qs.Perm ps := by
  intro ys ps h
  have : ∀ y ∈ ys, ∃ p : Addr, y = .ref p := fun y hy => by
    obtain ⟨p, _, e⟩ := List.mem_map.mp (h.mem_iff.mp hy)
    exact ⟨p, e.symm⟩
  let g : V → Addr := fun v => match v with
    | .ref p => p
    | _ => 0
  refine ⟨ys.map g, ?_, ?_⟩
  · rw [List.map_map]
    have : ∀ l : List V, (∀ y ∈ l, ∃ p : Addr, y = .ref p) → l = l.map (V.ref ∘ g) := by
      intro l
      induction l with
      | nil => intro _; rfl
      | cons y l ih =>
        intro hl
        obtain ⟨p, rfl⟩ := hl y List.mem_cons_self
        rw [List.map_cons, ← ih fun z hz => hl z (List.mem_cons_of_mem _ hz)]; rfl
    exact this ys ‹_›
  · have z := h.map g
    rw [List.map_map] at z
    have e : ps.map (g ∘ V.ref) = ps := by
      have : (g ∘ V.ref) = id := rfl
      rw [this, List.map_id]
    rw [e] at z; exact z
/-- sorted(pairs), as data -/
theorem call_sortP {X : Cx} : CallR X (.builtin "sorted") (fun vs H Q => ∃ (a : Addr) (ps : List Addr) (xs : List IP), vs = [V.ref a] ∧ SqL X.K H a (ps.map V.ref) ∧ Paired (PairAt H) ps xs ∧
    ∀ (qs : List Addr) (ys : List IP) (p : Addr), ys.Perm xs → SrtP ys → H p = none → Paired (PairAt H) qs ys → Q (.ref p) (upd H p (.lst (qs.map V.ref)))) := by
  intro pins s σ H vs us Q I rx h
  obtain ⟨a, ps, xs, rfl, ha, hp, q⟩ := h
  obtain ⟨k, hk, hat⟩ := pairs_at hp
  refine cr_sortedPO (X := X) pins s σ H _ us Q I rx ⟨a, ps.map V.ref, k, rfl, ha, fun x hx => ?_, fun ys p h1 h2 hn => ?_⟩
  · obtain ⟨p, hp, rfl⟩ := List.mem_map.mp hx
    exact ⟨p, rfl, hat p hp⟩
  · obtain ⟨qs, rfl, hq⟩ := refs_perm h2.perm
    refine q qs (qs.map fun p => k (.ref p)) p ?_ ?_ hn (paired_of fun p hp => hat p (hq.mem_iff.mp hp))
    · rw [← hk]; exact hq.map _
    · unfold SrtP
      rw [List.pairwise_map]
      have z := List.pairwise_map.mp h1
      exact z
theorem lex_anti {x y : IP} (a : SrtO.lexB y x = false) (b : SrtO.lexB x y = false) : x = y := by
  obtain ⟨x1, x2⟩ := x
  obtain ⟨y1, y2⟩ := y
  simp only [SrtO.lexB] at a b
  by_cases e1 : x1 = y1
  · subst e1
    rw [if_pos rfl, decide_eq_false_iff_not] at a b
    have e2 : x2 = y2 := by omega
    rw [e2]
  · rw [if_neg fun z => e1 z.symm, decide_eq_false_iff_not] at a
    rw [if_neg e1, decide_eq_false_iff_not] at b
    omega
theorem srtP_uniq {xs ys : List IP} (hp : xs.Perm ys) (a : SrtP xs) (b : SrtP ys) : xs = ys :=
  List.Perm.eq_of_pairwise (fun x y _ _ h1 h2 => lex_anti h1 h2) a b hp
end Sg

set_option Elab.async false
set_option linter.all false
set_option maxRecDepth 100000
set_option maxHeartbeats 4000000
namespace Sg
open PySem PySem.Spec PyProof.Rows L2
/-! ### the places that are shared -/
def rowLast (rs : List Rc) (k : List Key) : Int := match (rowsL rs k).getLast? with
  | none => 0
  | some x => x.1
def isSh (rs : List Rc) (ws : List IP) (k : List Key) : Bool := decide (word k = "place") && (!noneQ (valL rs k) && ws.any fun v => decide (v.1 = spaceK k) && decide (rowLast rs k < v.2))
def sharedL (rs : List Rc) (ws : List IP) : List IP := ((topicsL rs).filter (isSh rs ws)).map fun k => (spaceK k, thirdK k)
def PForm (k : List Key) : Prop := word k = "place" → ∃ n m, k = [(.inr ("place" : Str) : Key), .inl n, .inl m]
theorem wnp {w : Str} {r : List Key} (h : ¬ w = "place") : ¬ word (.inr w :: r) = "place" := h
theorem effB_p {o h : Int} {b : Bd} : ∀ e ∈ effB o h b, PForm e.1 := by
  intro e he hw
  cases b with
  | leave n hb => cases hb <;> simp only [effB, List.mem_cons, List.not_mem_nil, or_false] at he <;> (try rcases he with rfl | rfl) <;> (try subst he) <;> exact absurd hw (wnp (by decide))
  | preempt n v w => cases w <;> simp only [effB, List.mem_cons, List.not_mem_nil, or_false] at he <;> (try rcases he with rfl | rfl) <;> (try subst he) <;> exact absurd hw (wnp (by decide))
  | _ => simp only [effB, List.mem_cons, List.not_mem_nil, or_false] at he; subst he; first | exact ⟨_, _, rfl⟩ | exact absurd hw (wnp (by decide))
theorem topicsL_p {rs : List Rc} : ∀ k ∈ topicsL rs, PForm k := foldT_all (by intro k hk; cases hk) (effsL_all fun r _ => effB_p)
theorem val_rows {rs : List Rc} {k : List Key} (hp : rs.Pairwise (fun x y => x.o < y.o)) (hw : word k = "place") (h : noneQ (valL rs k) = false) : ∃ xs x, rowsL rs k = xs ++ [x] := by
  rw [valL_eq (by rw [hw]; decide) (by rw [hw]; decide) hp] at h
  rcases List.eq_nil_or_concat (rowsL rs k) with e | ⟨xs, x, e⟩
  · unfold valQ at h
    rw [e] at h; cases h
  · exact ⟨xs, x, by rw [e, List.concat_eq_append]⟩
def spLShared (K : PySem.W.Frag) : Sp := fun vs H Q _ => ∃ (a wv : Addr) (ts vp : List Addr) (rs : List Rc) (ws : List IP), vs = [.ref a, .ref wv] ∧ SqL K H a (ts.map V.ref) ∧ Paired (RecAt K H) ts rs ∧ rs.length ≤ 100 ∧ (∀ r ∈ rs, RGood r) ∧ rs.Pairwise (fun x y => x.o < y.o) ∧ SqL K H wv (vp.map V.ref) ∧ Paired (PairAt H) vp ws ∧ ws.length ≤ 200 ∧
  ∀ l ps ys H', Same H H' → H l = Option.none → H' l = some (.lst (ps.map V.ref)) → Paired (PairAt H') ps ys → ys.Perm (sharedL rs ws) → SrtP ys → Q (.ref l) H'
section
variable {P : Program} {wd : World} {K : PySem.W.Frag} {mg : Str → Option Value} {base : Heap} {f fT fV fR : Addr} {fd fdT fdV fdR : FuncData}
end
end Sg

set_option Elab.async false
set_option linter.all false
set_option maxRecDepth 100000
set_option maxHeartbeats 4000000
namespace Sg
open PySem PySem.Spec PyProof.Rows L2
/-! ### xs.remove(x), over data -/
def rRemD (K : PySem.W.Frag) : V → List V → Hp → VK → Prop := fun x xs H Q => ∃ (l : Addr) (vs : List V) (y : V) (d : PyData) (ds : List PyData) (j : Nat), x = .ref l ∧ xs = [y] ∧ H l = some (.lst vs) ∧ DpAll K H vs ds ∧ Dp K H y d ∧ PyData.plainAll ds = true ∧ d.plain = true ∧ d.depth ≤ 60 ∧ (ds.findIdx? fun y => PyData.eqv y d) = some j ∧ Q .non (upd H l (.lst (vs.eraseIdx j)))
theorem mt_removeD {X : Cx} (hu : X.A.units + 65 < cLine) : MtM X "list.remove" (rRemD X.K) := by
  intro pins s σ H x xs v us Q I rx rxs h
  obtain ⟨l, vs, y, d, ds, j, rfl, rfl, hH, ha, hy, pa, pd, hdp, hj, q⟩ := h
  cases rx
  obtain ⟨u, rfl, ru⟩ := rxs.one
  obtain ⟨bs, r1⟩ := Dp.reads I d y u hy ru
  obtain ⟨z, its, n, r, hl, e⟩ := I.lstM hH
  obtain ⟨as, h4⟩ := Dp.readsAll I ds _ its ha r
  have e2 : s.heap.IsList l its.toArray := ⟨_, e, rfl, n, rfl⟩
  refine SeqAt.remove_list_data (j := j) e2 h4 r1 pa pd (Nat.lt_of_le_of_lt (Nat.add_le_add_left (Nat.min_le_right _ _) _) (by omega)) hj (by rw [List.size_toArray]; omega) ?_
  have rr := r.eraseIdx j
  refine ⟨.non, _, I.lset (its' := its.eraseIdx j) (t' := s.toks) hH e ?_ rr ?_, rfl, q⟩
  · show its.toArray.eraseIdxIfInBounds j = (its.eraseIdx j).toArray
    rw [List.eraseIdxIfInBounds_toArray]
  · have := List.length_eraseIdx_le vs j
    omega
end Sg

set_option Elab.async false
set_option linter.all false
set_option maxRecDepth 100000
set_option maxHeartbeats 4000000
namespace Sg
open PySem PySem.Spec PyProof.Rows L2
/-! ### a cut at a test, at an expression -/
def tCut (t : TT) : TT := fun σ H Q => ∃ C : Bool → Hp → Prop, t σ H C ∧ ∀ b H', C b H' → Q b H'
theorem pt_cut {X : Cx} {e : Expr} {t : TT} (h : PT X e t) : PT X e (tCut t) :=
  ⟨fun pins s σ H Q I ⟨C, hC, k⟩ => thn (h.run pins s σ H C I hC) fun b s1 q => by
    obtain ⟨H', I', c⟩ := q
    exact ⟨H', I', k _ _ c⟩⟩
def tCutE (t : TE) : TE := fun σ H Q => ∃ C : VK, t σ H C ∧ ∀ b H', C b H' → Q b H'
theorem pe_cut {X : Cx} {e : Expr} {t : TE} (h : PE X e t) : PE X e (tCutE t) :=
  ⟨fun pins s σ H Q I ⟨C, hC, k⟩ => thn (h.run pins s σ H C I hC) fun b s1 q => by
    obtain ⟨v, H', I', r, c⟩ := q
    exact ⟨v, H', I', r, k _ _ c⟩⟩
/-- [x for x in a tuple if ..], the truths written beside -/
theorem lc_filtT {K : PySem.W.Frag} {σ : L2.St} {H1 : Hp} {D a : Addr} {vs : List Nat} {j : Nat} {xs : List V} {tt : TT} {te : TE} {Qd : Hp → Prop} (bs : List Bool) (hb : bs.length = xs.length) (hD : H1 D = Option.none) (hx : SqT K H1 a xs) (hw : ∀ x, wipe ((wipe σ vs).set j (some x)) vs = wipe σ vs) (hz : xs.length ≤ sizeLine)
    (he : ∀ (i : Nat) (x : V) (b : Bool) (H' : Hp) (Q' : Bool → Hp → Prop), xs[i]? = some x → bs[i]? = some b → Same H1 H' → (∀ H'', Same H' H'' → Q' b H'') → tt ((wipe σ vs).set j (some x)) H' Q')
    (hv : ∀ (x : V) (H' : Hp) (Q' : VK), x ∈ xs → Q' x H' → te ((wipe σ vs).set j (some x)) H' Q')
    (hd : ∀ H', Same H1 H' → H' D = some (.lst (keepB xs bs)) → Qd H') :
    ∃ W : Nat → Nat → Hp → Prop, (∃ m, W 0 m (upd H1 D (.lst []))) ∧ ∀ i m H, W i m H →
      ((Itt K a).stop i H ∧ Qd H) ∨ ((Itt K a).go i H ∧ ∃ Nx : Hp → Prop, (∀ H', Nx H' → ∃ m', m' < m ∧ W (i + 1) m' H') ∧ ∀ x H', (Itt K a).yld i H x H' → gName j x (wipe σ vs) H' fun σ2 H2 => wipe σ2 vs = wipe σ vs ∧ tt σ2 H2 fun b H3 =>
        if b = true then te σ2 H3 fun y H4 => ∃ acc, H4 D = some (.lst acc) ∧ acc.length < sizeLine ∧ Nx (upd H4 D (.lst (acc ++ [y]))) else Nx H3) := by
  refine lc_it (walk_tup (K := K) (a := a) (xs := xs)) (fun i H' => i ≤ xs.length ∧ Same H1 H' ∧ H' D = some (.lst (keepB (xs.take i) (bs.take i)))) ⟨Nat.zero_le _, same_new hD, by rw [List.take_zero, List.take_zero]; exact upd_same⟩ (fun i H' _ ⟨_, sm, _⟩ => SqT_same sm hx) ?_ ?_
  · rintro i x H' H'' hil ⟨_, sm, hDl⟩ ⟨rfl, hi⟩
    have hm := List.mem_of_getElem? hi
    obtain ⟨b, hbi⟩ : ∃ b, bs[i]? = some b := ⟨bs[i]'(by omega), List.getElem?_eq_getElem (by omega)⟩
    refine ⟨hw _, he i x b H'' _ hi hbi sm fun H3 s2 => ?_⟩
    have hD2 := s2 _ _ hDl
    have hlen : (keepB (xs.take i) (bs.take i)).length ≤ i := Nat.le_trans keepB_len (by rw [List.length_take]; omega)
    have tk := keepB_take hi hbi
    cases b with
    | true =>
      rw [if_pos rfl]
      rw [if_pos rfl] at tk
      refine hv x H3 _ hm ⟨_, hD2, by omega, by omega, ?_, ?_⟩
      · intro y o hy'
        rw [upd_ne (ne_of_none hy' hD)]
        exact s2 _ _ (sm _ _ hy')
      · rw [upd_same, tk]
    | false =>
      rw [if_neg Bool.false_ne_true]
      rw [if_neg Bool.false_ne_true, List.append_nil] at tk
      refine ⟨by omega, sm.trans s2, ?_⟩
      rw [hD2, tk]
  · rintro H' ⟨_, sm, hDl⟩
    refine hd H' sm ?_
    rw [List.take_length, ← hb, List.take_length] at hDl
    exact hDl
end Sg

set_option Elab.async false
set_option linter.all false
set_option maxRecDepth 100000
set_option maxHeartbeats 4000000
namespace Sg
open PySem PySem.Spec PyProof.Rows L2
/-! ### the fields of a record that is drawn -/
theorem keepB_ints {l : List Int} {p : Int → Bool} : keepB (l.map V.int) (l.map p) = (l.filter p).map V.int := by
  induction l with
  | nil => rfl
  | cons x l ih =>
    rw [List.map_cons, List.map_cons, List.filter_cons]
    cases c : p x <;> simp [keepB, ih]
theorem ints_dp {K : PySem.W.Frag} {H : Hp} : ∀ {l : List Int}, DpAll K H (l.map V.int) (l.map PyData.int)
  | [] => .nil
  | x :: l => .cons (.int x) ints_dp
theorem ints_lay : ∀ {l : List Int}, PyData.canLayAll0 (l.map PyData.int) = true ∧ PyData.depthAll (l.map PyData.int) = 0
  | [] => ⟨by simp [PyData.canLayAll0], by simp [PyData.depthAll]⟩
  | x :: l => by
    obtain ⟨a, b⟩ := ints_lay (l := l)
    exact ⟨by simp [PyData.canLayAll0, PyData.canLay0, a], by simp [PyData.depthAll, PyData.depth, b]⟩
theorem ints_sh {l : List Int} : SeqAt.shaped (.list (l.map PyData.int)) = true := shaped_list ints_lay.1 (by rw [ints_lay.2]; decide)
theorem ints_nil {l : List Int} : PyData.eqv (.list (l.map PyData.int)) (.list []) = l.isEmpty := by
  cases l with
  | nil => simp [PyData.eqv, PyData.eqvAll]
  | cons => simp [PyData.eqv, PyData.eqvAll]
def prD (x : IP) : PyData := .tuple [.int x.1, .int x.2]
theorem prs_dp {K : PySem.W.Frag} {H : Hp} : ∀ {ps : List Addr} {xs : List IP}, Paired (PairAt H) ps xs → DpAll K H (ps.map V.ref) (xs.map prD)
  | _, _, .nil => .nil
  | _, _, .cons a b => .cons (.tup (SqT.of a) (.cons (.int _) (.cons (.int _) .nil))) (prs_dp b)
theorem prs_lay : ∀ {xs : List IP}, PyData.canLayAll0 (xs.map prD) = true ∧ PyData.depthAll (xs.map prD) ≤ 1
  | [] => ⟨by simp [PyData.canLayAll0], by simp [PyData.depthAll]⟩
  | x :: xs => by
    obtain ⟨a, b⟩ := prs_lay (xs := xs)
    refine ⟨by simp [PyData.canLayAll0, PyData.canLay0, prD, a], ?_⟩
    simp only [List.map_cons, PyData.depthAll]
    exact Nat.max_le.mpr ⟨by simp [prD, PyData.depth, PyData.depthAll], b⟩
theorem prs_sh {xs : List IP} : SeqAt.shaped (.list (xs.map prD)) = true := shaped_list prs_lay.1 (Nat.le_trans prs_lay.2 (by decide))
theorem prs_nil {xs : List IP} : PyData.eqv (.list (xs.map prD)) (.list []) = xs.isEmpty := by
  cases xs with
  | nil => simp [PyData.eqv, PyData.eqvAll]
  | cons => simp [PyData.eqv, PyData.eqvAll]
theorem nil_sh : SeqAt.shaped (.list []) = true := shaped_list (by simp [PyData.canLayAll0]) (by simp [PyData.depthAll])
theorem atI_pick {xs : List V} {r : Int} (h0 : 0 ≤ r) (h1 : r < (xs.length : Int)) : ∃ v ∈ xs, atI xs r = some v := by
  have hj : r.toNat < xs.length := by omega
  have := atI_nat (List.getElem?_eq_getElem hj)
  rw [show ((r.toNat : Nat) : Int) = r by omega] at this
  exact ⟨_, List.getElem_mem hj, this⟩
structure BGood (b : Bd) : Prop where
  t : tupOs (fldD b) = true
  l : PyData.canLayAll0 (fldD b) = true
  dp : PyData.depthAll (fldD b) ≤ 10
def BIn (b : Bd) (ns : List Int) (xs : List IP) : Prop := (∀ n, b = .remove n → n ∈ ns) ∧ ∀ n s, b = .drop n s → (n, s) ∈ xs
structure FS (K : PySem.W.Frag) (H : Hp) (tp q sp sn : Addr) (ns : List Int) (ps : List Addr) (xs : List IP) (Hx : Hp) : Prop where
  o : Off [tp] H Hx
  t : TapeQ K Hx tp q
  sp : Hx sp = some (.lst (ns.map V.int))
  sn : Hx sn = some (.lst (ps.map V.ref))
  pr : Paired (PairAt Hx) ps xs
section
variable {K : PySem.W.Frag} {H Hx Hy : Hp} {tp q sp sn : Addr} {ns : List Int} {ps : List Addr} {xs : List IP}
theorem FS.same (h : FS K H tp q sp sn ns ps xs Hx) (s : Same Hx Hy) : FS K H tp q sp sn ns ps xs Hy :=
  ⟨h.o.trans (Off.of s), h.t.same s, s _ _ h.sp, s _ _ h.sn, Paired.imp2 (fun _ _ z => s _ _ z) h.pr⟩
theorem FS.off (h : FS K H tp q sp sn ns ps xs Hx) (o : Off [tp] Hx Hy) (t : TapeQ K Hy tp q) (n1 : sp ≠ tp) (n2 : sn ≠ tp) : FS K H tp q sp sn ns ps xs Hy :=
  ⟨h.o.trans o, t, o _ _ h.sp (by simpa using n1), o _ _ h.sn (by simpa using n2), Paired.imp2 (fun _ _ z => (h.t.tk o).t _ _ z) h.pr⟩
end
def spLFields (K : PySem.W.Frag) : Sp := fun vs H Q _ => ∃ (tp q sp sn : Addr) (ns : List Int) (ps : List Addr) (xs : List IP), vs = [.ref tp, .ref sp, .ref sn] ∧ FS K H tp q sp sn ns ps xs H ∧ sp ≠ tp ∧ sn ≠ tp ∧ ns.length ≤ 100 ∧ xs.length ≤ 100 ∧
  ∀ v b H', FS K H tp q sp sn ns ps xs H' → Dp K H' v (.tuple [.str (kindS b), .tuple (fldD b)]) → BGood b → BIn b ns xs → Q v H'
theorem ok_w : ∀ s ∈ (["write", "alone", "ok"] : List Str), PyData.strOk s = true := by decide +kernel
theorem bg_ints {b : Bd} {l : List Int} (h : fldD b = l.map PyData.int) : BGood b := by
  refine ⟨?_, by rw [h]; exact ints_lay.1, by rw [h, ints_lay.2]; decide⟩
  rw [h]
  clear h
  induction l with
  | nil => rfl
  | cons x l ih => simp [tupOs, tupO, ih]
section
variable {P : Program} {wd : World} {K : PySem.W.Frag} {mg : Str → Option Value} {base : Heap} {f fN : Addr} {fd fdN : FuncData}
theorem scLFields : FnScope ["tape", "spaces", "snaps", "kind", "fresh", "space"] ["tape", "spaces", "snaps"] (defScope sLFields) := ⟨rfl, rfl, rfl, by decide +kernel, rfl, by decide +kernel, by decide +kernel⟩
theorem ok_lfields (F : Fun K "_law_fields" "_law_fields" sLFields f fd) (B : BN mg) (GN : Def P wd K mg base CX0 "_law_next" 1 ["tape", "many"] (spNext K) fN fdN) : FnOk P wd K mg base CX0 2 f fd ["tape", "spaces", "snaps"] (spLFields K) := by
  refine F.ok scLFields (fun vs H Q E h => ?_) (fun cdv A outer s H vs Q E hr h => ?_)
  · obtain ⟨tp, q, sp, sn, ns, ps, xs, rfl, _⟩ := h
    rfl
  · obtain ⟨tp, q, sp, sn, ns, ps, xs, rfl, F0, n1, n2, hln, hlx, k⟩ := h
    refine ⟨_, (pss_cons (ps_set (i := 3) scLFields.nd rfl (Or.inl rfl) (pe_call GN.ok hr (by rfl) GN.mg GN.kp GN.bd .nil pass0 (pa_cons (pv 0) (pa_cons pe_int pa_nil))))
      (Evl.pss_cut (ps_if (pt_cut (PW.pt (pw_or (pt_cmpR (op_eqD hr.units) (pv 1) (pe_lst pa_nil) (nomark _)) (pw_or1 (pt_cmpR op_eq (pv 3) pe_int (nomark _))))))
      (pss_cons (ps_setLc (i := 4) (own := [("space", 5)]) (g := gName 5) (tt := tTest (tOp (rIn K true) (tVar 5) (tVar 1))) (te := tVar 5) (by rfl) scLFields.nd rfl rfl (sw_true rfl rfl rfl (by decide +kernel)) (pi_tup (pe_tup (pa_cons pe_int (pa_cons pe_int (pa_cons pe_int pa_nil))))) (blkOk_by (own := [("space", 5)]) (N := ["tape", "spaces", "snaps", "kind", "fresh", "space"]) (sc := defScope sLFields) (by decide +kernel)) (fun _ _ _ _ _ => pg_name (i := 5) scLFields.nd rfl (Or.inl rfl)) (fun _ _ _ _ _ => pts_one (pt_cmpR op_notIn_seq (pv 5) (pv 1) (by rfl))) (fun _ _ _ _ _ => by exact (pv 5)))
      (pss_one (ps_if (pt_cmpR (op_neD hr.units) (pv 4) (pe_lst pa_nil) (nomark _))
      (pss_one (ps_ret (pe_tup (pa_cons pe_str (pa_cons (pe_tup (pa_cons (pe_ix ix_list (pv 4) (pe_call GN.ok hr (by rfl) GN.mg GN.kp GN.bd .nil pass0 (pa_cons (pv 0) (pa_cons (pe_callB call_len_seq (by rfl) B.len PySem.boot_len (pa_cons (pv 4) pa_nil)) pa_nil))) (fun _ _ => rfl)) (pa_cons pe_int pa_nil))) pa_nil))))) pss_nil))) pss_nil)
      (pss_cons (ps_set (i := 5) scLFields.nd rfl (Or.inl rfl) (pe_ix ix_list (pv 1) (pe_call GN.ok hr (by rfl) GN.mg GN.kp GN.bd .nil pass0 (pa_cons (pv 0) (pa_cons (pe_callB call_len_seq (by rfl) B.len PySem.boot_len (pa_cons (pv 1) pa_nil)) pa_nil))) (fun _ _ => rfl)))
      (pss_cons (ps_if (pt_cmpR op_eq (pv 3) pe_int (nomark _))
      (pss_one (ps_ret (pe_tup (pa_cons pe_str (pa_cons (pe_tup (pa_cons (pe_ix ix_tup (pe_tup (pa_cons pe_non (pa_cons (pe_tup (pa_cons pe_int (pa_cons (pe_call GN.ok hr (by rfl) GN.mg GN.kp GN.bd .nil pass0 (pa_cons (pv 0) (pa_cons pe_int pa_nil))) (pa_cons (pe_tup (pa_cons pe_str (pa_cons pe_non pa_nil))) pa_nil)))) pa_nil))) (pe_call GN.ok hr (by rfl) GN.mg GN.kp GN.bd .nil pass0 (pa_cons (pv 0) (pa_cons pe_int pa_nil))) (fun _ _ => rfl)) pa_nil)) pa_nil))))) pss_nil)
      (pss_cons (ps_if (pt_cut (PW.pt (pw_and (pt_cmpR op_eq (pv 3) pe_int (nomark _)) (pw_and1 (pt_cmpR op_eq (pe_call GN.ok hr (by rfl) GN.mg GN.kp GN.bd .nil pass0 (pa_cons (pv 0) (pa_cons pe_int pa_nil))) pe_int (nomark _))))))
      (pss_one (ps_ret (pe_tup (pa_cons pe_str (pa_cons (pe_tup (pa_cons (pv 5) pa_nil)) pa_nil))))) pss_nil)
      (pss_cons (ps_if (pt_cmpR op_lt (pv 3) pe_int (nomark _))
      (pss_one (ps_ret (pe_tup (pa_cons pe_str (pa_cons (pe_tup (pa_cons (pv 5) (pa_cons (pe_call GN.ok hr (by rfl) GN.mg GN.kp GN.bd .nil pass0 (pa_cons (pv 0) (pa_cons pe_int pa_nil))) pa_nil))) pa_nil))))) pss_nil)
      (pss_cons (ps_if (pt_cmpR op_eq (pv 3) pe_int (nomark _))
      (pss_one (ps_ret (pe_tup (pa_cons pe_str (pa_cons (pe_tup (pa_cons (pv 5) pa_nil)) pa_nil))))) pss_nil)
      (pss_cons (ps_if (pt_cut (PW.pt (pw_and (pt_cmpR op_eq (pv 3) pe_int (nomark _)) (pw_and1 (pt_cmpR (op_neD hr.units) (pv 2) (pe_lst pa_nil) (nomark _))))))
      (pss_one (ps_ret (pe_tup (pa_cons pe_str (pa_cons (pe_ix ix_list (pv 2) (pe_call GN.ok hr (by rfl) GN.mg GN.kp GN.bd .nil pass0 (pa_cons (pv 0) (pa_cons (pe_callB call_len_seq (by rfl) B.len PySem.boot_len (pa_cons (pv 2) pa_nil)) pa_nil))) (fun _ _ => rfl)) pa_nil))))) pss_nil)
      (pss_cons (ps_if (pt_cmpR op_eq (pv 3) pe_int (nomark _))
      (pss_one (ps_ret (pe_tup (pa_cons pe_str (pa_cons (pe_tup (pa_cons (pv 5) pa_nil)) pa_nil))))) pss_nil)
      (pss_cons (ps_if (pt_cmpR op_eq (pv 3) pe_int (nomark _))
      (pss_one (ps_ret (pe_tup (pa_cons pe_str (pa_cons (pe_tup (pa_cons (pv 5) (pa_cons (pe_ix ix_tup (pe_tup (pa_cons pe_str (pa_cons pe_str pa_nil))) (pe_call GN.ok hr (by rfl) GN.mg GN.kp GN.bd .nil pass0 (pa_cons (pv 0) (pa_cons pe_int pa_nil))) (fun _ _ => rfl)) pa_nil))) pa_nil))))) pss_nil)
      (pss_cons (ps_if (pt_cmpR op_eq (pv 3) pe_int (nomark _))
      (pss_one (ps_ret (pe_tup (pa_cons pe_str (pa_cons (pe_tup (pa_cons (pv 5) pa_nil)) pa_nil))))) pss_nil)
      (pss_cons (ps_if (pt_cmpR op_eq (pv 3) pe_int (nomark _))
      (pss_one (ps_ret (pe_tup (pa_cons pe_str (pa_cons (pe_tup (pa_cons (pv 5) (pa_cons (pe_call GN.ok hr (by rfl) GN.mg GN.kp GN.bd .nil pass0 (pa_cons (pv 0) (pa_cons pe_int pa_nil))) (pa_cons (pe_ix ix_tup (pe_tup (pa_cons pe_non (pa_cons pe_str (pa_cons pe_str pa_nil)))) (pe_call GN.ok hr (by rfl) GN.mg GN.kp GN.bd .nil pass0 (pa_cons (pv 0) (pa_cons pe_int pa_nil))) (fun _ _ => rfl)) pa_nil)))) pa_nil))))) pss_nil)
      (pss_cons (ps_if (pt_cmpR op_eq (pv 3) pe_int (nomark _))
      (pss_one (ps_ret (pe_tup (pa_cons pe_str (pa_cons (pe_tup (pa_cons (pv 5) (pa_cons (pe_cmpR op_eq (pe_call GN.ok hr (by rfl) GN.mg GN.kp GN.bd .nil pass0 (pa_cons (pv 0) (pa_cons pe_int pa_nil))) pe_int (nomark _)) pa_nil))) pa_nil))))) pss_nil)
      (pss_one (ps_ret (pe_tup (pa_cons pe_str (pa_cons (pe_tup (pa_cons (pv 5) (pa_cons (pe_call GN.ok hr (by rfl) GN.mg GN.kp GN.bd .nil pass0 (pa_cons (pv 0) (pa_cons pe_int pa_nil))) (pa_cons (pe_call GN.ok hr (by rfl) GN.mg GN.kp GN.bd .nil pass0 (pa_cons (pv 0) (pa_cons pe_int pa_nil))) pa_nil)))) pa_nil)))))))))))))))))), ?_⟩
    have hpl := F0.pr.length
    have fin : ∀ (Hx : Hp) (vs : List V) (b : Bd), FS K H tp q sp sn ns ps xs Hx → DpAll K Hx vs (fldD b) → BGood b → BIn b ns xs → ∀ ft, Hx ft = Option.none → ∀ t, (upd Hx ft (.tup vs)) t = Option.none → Q (.ref t) (upd (upd Hx ft (.tup vs)) t (.tup [.str (kindS b), .ref ft])) := fun Hx vs b FX hd hb hi ft hft t ht => by
      have s1 := same_new (o := .tup vs) hft
      have s2 := same_new (o := .tup [.str (kindS b), .ref ft]) ht
      exact k _ b _ (FX.same (s1.trans s2)) (.tup (SqT.of upd_same) (.cons (.str _) (.cons (.tup (SqT.of (s2 _ _ upd_same)) (dpAll_same (s1.trans s2) _ _ hd)) .nil))) hb hi
    have nob : ∀ {b : Bd}, (∀ n, b ≠ .remove n) → (∀ n s, b ≠ .drop n s) → BIn b ns xs := fun h1 h2 => ⟨fun n e => absurd e (h1 n), fun n s e => absurd e (h2 n s)⟩
    refine ⟨_, rfl, tp, q, 17, rfl, F0.t, by decide, by decide, fun kd H1 k0 k1 o1 t1 => ?_⟩
    have F1 := F0.off o1 t1 n1 n2
    refine ⟨fun σ Hx => ∃ v4 v5, σ = [some (.ref tp), some (.ref sp), some (.ref sn), some (.int kd), v4, v5] ∧ FS K H tp q sp sn ns ps xs Hx ∧ ns ≠ [], ?_, ?_⟩
    · refine ⟨fun b Hx => FS K H tp q sp sn ns ps xs Hx ∧ (b = false → ns ≠ []), ?_, ?_⟩
      · refine ⟨_, rfl, by show 0 ≤ sizeLine; decide, fun z hz => ⟨_, _, .lst (SqL.of ((same_new hz) _ _ F1.sp)) ints_dp, .lst (SqL.of upd_same) .nil, ints_sh, nil_sh, _, rfl, ?_⟩⟩
        have F2 := F1.same (same_new (o := .lst []) hz)
        generalize upd H1 z (.lst []) = H2 at F2
        rw [ints_nil]
        cases c : ns.isEmpty with
        | true => exact iteT ⟨F2, fun z => by cases z⟩
        | false =>
          have hne : ns ≠ [] := fun e => by rw [e] at c; cases c
          refine iteF ⟨_, rfl, rfl, _, rfl, ?_⟩
          exact ⟨F2, fun _ => hne⟩
      · rintro b H2 ⟨F2, hb⟩
        cases b with
        | false => exact iteF ⟨_, _, rfl, F2, hb rfl⟩
        | true =>
          refine iteT ⟨by show 3 ≤ sizeLine; decide, fun a3 ha3 => ?_⟩
          have F3 := F2.same (same_new (o := .tup [.int 2, .int 5, .int 8]) ha3)
          have h3 : (upd H2 a3 (.tup [.int 2, .int 5, .int 8])) a3 = some (.tup (([2, 5, 8] : List Int).map V.int)) := upd_same
          generalize upd H2 a3 (.tup [.int 2, .int 5, .int 8]) = H3 at F3 h3
          refine ⟨a3, rfl, ⟨_, SqT.of h3⟩, fun D hD => ?_⟩
          refine lc_filtT (([2, 5, 8] : List Int).map fun x => !decide (x ∈ ns)) rfl hD (SqT.of h3) (fun _ => rfl) (by show 3 ≤ sizeLine; decide) (fun i x b H' Q' hx hb' sm kk => ?_) (fun x H' Q' hm kk => ⟨_, rfl, kk⟩) fun H4 s34 hDl => ?_
          · obtain ⟨n, hn, rfl⟩ := map_get hx
            rw [List.getElem?_map, hn] at hb'
            cases hb'
            refine ⟨_, rfl, _, rfl, sp, _, rfl, .inl (SqL.of (sm _ _ F3.sp)), rfl, flat_ints, _, rfl, ?_⟩
            rw [inV_int]
            exact kk H' (Same.refl H')
          · rw [keepB_ints] at hDl
            have F4 := F3.same s34
            have nDt : D ≠ tp := fun e => by
              obtain ⟨l, hl⟩ := F3.t.lst
              rw [e, hl] at hD; cases hD
            generalize hfr : ([2, 5, 8] : List Int).filter (fun x => !decide (x ∈ ns)) = fr at hDl
            have frl : fr.length ≤ 3 := by rw [← hfr]; exact List.length_filter_le _ _
            refine ⟨_, rfl, by show 0 ≤ sizeLine; decide, fun z hz => ⟨_, _, .lst (SqL.of ((same_new hz) _ _ hDl)) ints_dp, .lst (SqL.of upd_same) .nil, ints_sh, nil_sh, _, rfl, ?_⟩⟩
            have F5 := F4.same (same_new (o := .lst []) hz)
            have hD5 := (same_new (o := .lst []) hz) _ _ hDl
            generalize upd H4 z (.lst []) = H5 at F5 hD5
            rw [ints_nil]
            cases c : fr.isEmpty with
            | true =>
              have hne : ns ≠ [] := fun e => by
                rw [e] at hfr
                rw [← hfr] at c; simp at c
              exact iteF ⟨_, _, rfl, F5, hne⟩
            | false =>
              have hpos : 0 < fr.length := by
                cases fr with
                | nil => cases c
                | cons => simp
              refine iteT ⟨_, rfl, _, rfl, _, rfl, D, _, rfl, .inl (SqL.of hD5), tp, q, _, rfl, F5.t, by rw [List.length_map]; omega, by rw [List.length_map]; omega, fun r H6 r0 r1 o6 t6 => ?_⟩
              have F6 := F5.off o6 t6 n1 n2
              have hD6 := o6 _ _ hD5 (by simpa using nDt)
              obtain ⟨v, hv, hat⟩ := atI_pick r0 r1
              obtain ⟨n, _, rfl⟩ := List.mem_map.mp hv
              exact ⟨D, _, r, _, rfl, rfl, SqL.of hD6, hat, by show 2 ≤ sizeLine; decide, fun ft hft => ⟨by show 2 ≤ sizeLine; decide, fun t ht => fin H6 _ (.make n 4) F6 (.cons (.int _) (.cons (.int _) .nil)) (bg_ints (l := [n, 4]) rfl) (nob (fun _ z => nomatch z) (fun _ _ z => nomatch z)) ft hft t ht⟩⟩
    · rintro σ H2 ⟨v4, v5, rfl, F2, hne⟩
      have hpos : 0 < ns.length := List.length_pos_iff.mpr hne
      refine ⟨_, rfl, _, rfl, _, rfl, sp, _, rfl, .inl (SqL.of F2.sp), tp, q, _, rfl, F2.t, by rw [List.length_map]; omega, by rw [List.length_map]; omega, fun r H3 r0 r1 o3 t3 => ?_⟩
      have F3 := F2.off o3 t3 n1 n2
      obtain ⟨v, hv, hat⟩ := atI_pick r0 r1
      obtain ⟨n, hnm, rfl⟩ := List.mem_map.mp hv
      refine ⟨sp, _, r, _, rfl, rfl, SqL.of F3.sp, hat, ?_⟩
      have one : ∀ (Hx : Hp) (b : Bd), FS K H tp q sp sn ns ps xs Hx → fldD b = [.int n] → (∀ m s, b ≠ .drop m s) → ∀ ft, Hx ft = Option.none → ∀ t, (upd Hx ft (.tup [.int n])) t = Option.none → Q (.ref t) (upd (upd Hx ft (.tup [.int n])) t (.tup [.str (kindS b), .ref ft])) := fun Hx b FX hb hd ft hft t ht =>
        fin Hx [.int n] b FX (by rw [hb]; exact .cons (.int _) .nil) (bg_ints (l := [n]) hb) ⟨fun m e => by rw [e] at hb; cases hb; exact hnm, fun m s e => absurd e (hd m s)⟩ ft hft t ht
      refine ⟨_, rfl, rfl, _, rfl, ?_⟩
      rw [int_dec]
      cases c1 : decide (kd = 1) with
      | true =>
        refine iteT ⟨_, rfl, tp, q, 9, rfl, F3.t, by decide, by decide, fun m H4 m0 m1 o4 t4 => ⟨by show 2 ≤ sizeLine; decide, fun a1 ha1 => ⟨by show 3 ≤ sizeLine; decide, fun a2 ha2 => ⟨by show 2 ≤ sizeLine; decide, fun a3 ha3 => ?_⟩⟩⟩⟩
        have F4 := F3.off o4 t4 n1 n2
        have s1 := same_new (o := .tup [.str "ok", .non]) ha1
        have h1 : (upd H4 a1 (.tup [.str "ok", .non])) a1 = some (.tup [.str "ok", .non]) := upd_same
        generalize upd H4 a1 (.tup [.str "ok", .non]) = H5 at s1 h1 ha2 ha3 ⊢
        have s2 := same_new (o := .tup [.int 3, .int m, .ref a1]) ha2
        have h2 : (upd H5 a2 (.tup [.int 3, .int m, .ref a1])) a2 = some (.tup [.int 3, .int m, .ref a1]) := upd_same
        generalize upd H5 a2 (.tup [.int 3, .int m, .ref a1]) = H6 at s2 h2 ha3 ⊢
        have s3 := same_new (o := .tup [.non, .ref a2]) ha3
        have h3 : (upd H6 a3 (.tup [.non, .ref a2])) a3 = some (.tup [.non, .ref a2]) := upd_same
        generalize upd H6 a3 (.tup [.non, .ref a2]) = H7 at s3 h3 ⊢
        have F7 := F4.same (s1.trans (s2.trans s3))
        refine ⟨_, rfl, tp, q, 2, rfl, F7.t, by decide, by decide, fun r2 H8 r20 r21 o8 t8 => ?_⟩
        have F8 := F7.off o8 t8 n1 n2
        have tk8 := F7.t.tk o8
        have hr2 : r2 = 0 ∨ r2 = 1 := by omega
        rcases hr2 with rfl | rfl
        · exact ⟨a3, _, _, V.non, rfl, rfl, SqT.of (tk8.t _ _ h3), rfl, by show 1 ≤ sizeLine; decide, fun ft hft => ⟨by show 2 ≤ sizeLine; decide, fun t ht => fin H8 _ (.mark .none) F8 (.cons .non .nil) ⟨rfl, by simp [fldD, PyData.canLayAll0, PyData.canLay0], by simp [fldD, PyData.depthAll, PyData.depth]⟩ (nob (fun _ z => nomatch z) (fun _ _ z => nomatch z)) ft hft t ht⟩⟩
        · refine ⟨a3, _, _, V.ref a2, rfl, rfl, SqT.of (tk8.t _ _ h3), rfl, by show 1 ≤ sizeLine; decide, fun ft hft => ⟨by show 2 ≤ sizeLine; decide, fun t ht => fin H8 _ (.mark (.tuple [.int 3, .int m, .tuple [.str "ok", .none]])) F8 (.cons ?_ .nil) ⟨rfl, ?_, by simp [fldD, PyData.depthAll, PyData.depth]⟩ (nob (fun _ z => nomatch z) (fun _ _ z => nomatch z)) ft hft t ht⟩⟩
          · exact .tup (SqT.of (tk8.t _ _ (s3 _ _ h2))) (.cons (.int _) (.cons (.int _) (.cons (.tup (SqT.of (tk8.t _ _ (s3 _ _ (s2 _ _ h1)))) (.cons (.str _) (.cons .non .nil))) .nil)))
          · simp only [fldD, PyData.canLayAll0, PyData.canLay0, ok_w "ok" (by decide), Bool.and_self]
      | false =>
      refine iteF ⟨fun b Hx => FS K H tp q sp sn ns ps xs Hx, ?_, fun b H4 F4 => ?_⟩
      · refine ⟨_, rfl, rfl, _, rfl, ?_⟩
        rw [int_dec]
        cases c2 : decide (kd = 2) with
        | true => exact iteT ⟨_, rfl, tp, q, 2, rfl, F3.t, by decide, by decide, fun r2 H4 r20 r21 o4 t4 => ⟨rfl, _, rfl, F3.off o4 t4 n1 n2⟩⟩
        | false => exact iteF F3
      cases b with
      | true => exact iteT ⟨_, rfl, by show 1 ≤ sizeLine; decide, fun ft hft => ⟨by show 2 ≤ sizeLine; decide, fun t ht => one H4 (.remove n) F4 rfl (fun _ _ z => nomatch z) ft hft t ht⟩⟩
      | false =>
      refine iteF ⟨_, rfl, _, _, rfl, rfl, _, rfl, ?_⟩
      cases c3 : decide (kd < 6) with
      | true =>
        exact iteT ⟨_, rfl, _, rfl, tp, q, 4, rfl, F4.t, by decide, by decide, fun r2 H5 r20 r21 o5 t5 => ⟨by show 2 ≤ sizeLine; decide, fun ft hft => ⟨by show 2 ≤ sizeLine; decide, fun t ht => fin H5 _ (.trim n r2) (F4.off o5 t5 n1 n2) (.cons (.int _) (.cons (.int _) .nil)) (bg_ints (l := [n, r2]) rfl) (nob (fun _ z => nomatch z) (fun _ _ z => nomatch z)) ft hft t ht⟩⟩⟩
      | false =>
      refine iteF ⟨_, rfl, rfl, _, rfl, ?_⟩
      rw [int_dec]
      cases c4 : decide (kd = 6) with
      | true => exact iteT ⟨_, rfl, by show 1 ≤ sizeLine; decide, fun ft hft => ⟨by show 2 ≤ sizeLine; decide, fun t ht => one H4 (.snap n) F4 rfl (fun _ _ z => nomatch z) ft hft t ht⟩⟩
      | false =>
      refine iteF ⟨fun b Hx => FS K H tp q sp sn ns ps xs Hx ∧ (b = true → xs ≠ []), ?_, fun b H5 ⟨F5, hb5⟩ => ?_⟩
      · refine ⟨_, rfl, rfl, _, rfl, ?_⟩
        rw [int_dec]
        cases c2 : decide (kd = 7) with
        | true =>
          refine iteT ⟨_, rfl, by show 0 ≤ sizeLine; decide, fun z hz => ⟨_, _, .lst (SqL.of ((same_new hz) _ _ F4.sn)) (dpAll_same (same_new hz) _ _ (prs_dp F4.pr)), .lst (SqL.of upd_same) .nil, prs_sh, nil_sh, _, rfl, ?_⟩⟩
          have F5 := F4.same (same_new (o := .lst []) hz)
          rw [prs_nil]
          exact ⟨F5, fun e z => by rw [z] at e; cases e⟩
        | false => exact iteF ⟨F4, fun z => by cases z⟩
      cases b with
      | true =>
        have hx := List.length_pos_iff.mpr (hb5 rfl)
        refine iteT ⟨_, rfl, _, rfl, _, rfl, sn, _, rfl, .inl (SqL.of F5.sn), tp, q, _, rfl, F5.t, by rw [List.length_map]; omega, by rw [List.length_map]; omega, fun r2 H6 r20 r21 o6 t6 => ?_⟩
        have F6 := F5.off o6 t6 n1 n2
        have r21' : r2.toNat < ps.length := by rw [List.length_map] at r21; omega
        obtain ⟨pr, hpr, hpa⟩ := paired_at F6.pr (List.getElem?_eq_getElem r21')
        have hat : atI (ps.map V.ref) r2 = some (V.ref ps[r2.toNat]) := by
          have z := atI_nat (xs := ps.map V.ref) (j := r2.toNat) (v := V.ref ps[r2.toNat]) (by rw [List.getElem?_map, List.getElem?_eq_getElem r21']; rfl)
          rw [show ((r2.toNat : Nat) : Int) = r2 by omega] at z; exact z
        refine ⟨sn, _, r2, _, rfl, rfl, SqL.of F6.sn, hat, by show 2 ≤ sizeLine; decide, fun t ht => ?_⟩
        have st := same_new (o := .tup [.str "drop", .ref ps[r2.toNat]]) ht
        exact k _ (.drop pr.1 pr.2) _ (F6.same st) (.tup (SqT.of upd_same) (.cons (.str _) (.cons (.tup (SqT.of (st _ _ hpa)) (.cons (.int _) (.cons (.int _) .nil))) .nil))) (bg_ints (l := [pr.1, pr.2]) rfl) ⟨(fun _ z => nomatch z), fun _ _ e => by cases e; exact List.mem_of_getElem? hpr⟩
      | false =>
      refine iteF ⟨_, rfl, rfl, _, rfl, ?_⟩
      rw [int_dec]
      cases c5 : decide (kd = 8) with
      | true => exact iteT ⟨_, rfl, by show 1 ≤ sizeLine; decide, fun ft hft => ⟨by show 2 ≤ sizeLine; decide, fun t ht => one H5 (.register n) F5 rfl (fun _ _ z => nomatch z) ft hft t ht⟩⟩
      | false =>
      refine iteF ⟨_, rfl, rfl, _, rfl, ?_⟩
      rw [int_dec]
      cases c6 : decide (kd = 9) with
      | true =>
        refine iteT ⟨_, rfl, by show 2 ≤ sizeLine; decide, fun a3 ha3 => ?_⟩
        have F6 := F5.same (same_new (o := .tup [.str "write", .str "alone"]) ha3)
        have h3 : (upd H5 a3 (.tup [.str "write", .str "alone"])) a3 = some (.tup [.str "write", .str "alone"]) := upd_same
        generalize upd H5 a3 (.tup [.str "write", .str "alone"]) = H6 at F6 h3
        refine ⟨_, rfl, tp, q, 2, rfl, F6.t, by decide, by decide, fun r2 H7 r20 r21 o7 t7 => ?_⟩
        have F7 := F6.off o7 t7 n1 n2
        have tk7 := F6.t.tk o7
        have hw : ∃ w ∈ (["write", "alone", "ok"] : List Str), atI [V.str "write", V.str "alone"] r2 = some (V.str w) := by
          have hr2 : r2 = 0 ∨ r2 = 1 := by omega
          rcases hr2 with rfl | rfl
          · exact ⟨"write", by decide, rfl⟩
          · exact ⟨"alone", by decide, rfl⟩
        obtain ⟨w, hw, hat⟩ := hw
        exact ⟨a3, _, _, _, rfl, rfl, SqT.of (tk7.t _ _ h3), hat, by show 2 ≤ sizeLine; decide, fun ft hft => ⟨by show 2 ≤ sizeLine; decide, fun t ht => fin H7 _ (.reserve n w) F7 (.cons (.int _) (.cons (.str _) .nil)) ⟨rfl, by simp only [fldD, PyData.canLayAll0, PyData.canLay0, ok_w w hw, Bool.and_self], by simp [fldD, PyData.depthAll, PyData.depth]⟩ (nob (fun _ z => nomatch z) (fun _ _ z => nomatch z)) ft hft t ht⟩⟩
      | false =>
      refine iteF ⟨_, rfl, rfl, _, rfl, ?_⟩
      rw [int_dec]
      cases c7 : decide (kd = 10) with
      | true => exact iteT ⟨_, rfl, by show 1 ≤ sizeLine; decide, fun ft hft => ⟨by show 2 ≤ sizeLine; decide, fun t ht => one H5 (.release n) F5 rfl (fun _ _ z => nomatch z) ft hft t ht⟩⟩
      | false =>
      refine iteF ⟨_, rfl, rfl, _, rfl, ?_⟩
      rw [int_dec]
      cases c8 : decide (kd = 11) with
      | true =>
        refine iteT ⟨_, rfl, _, rfl, tp, q, 4, rfl, F5.t, by decide, by decide, fun m H6 m0 m1 o6 t6 => ⟨by show 3 ≤ sizeLine; decide, fun a3 ha3 => ?_⟩⟩
        have F6 := (F5.off o6 t6 n1 n2).same (same_new (o := .tup [.non, .str "write", .str "alone"]) ha3)
        have h3 : (upd H6 a3 (.tup [.non, .str "write", .str "alone"])) a3 = some (.tup [.non, .str "write", .str "alone"]) := upd_same
        generalize upd H6 a3 (.tup [.non, .str "write", .str "alone"]) = H7 at F6 h3
        refine ⟨_, rfl, tp, q, 3, rfl, F6.t, by decide, by decide, fun r2 H8 r20 r21 o8 t8 => ?_⟩
        have F8 := F6.off o8 t8 n1 n2
        have tk8 := F6.t.tk o8
        have hr2 : r2 = 0 ∨ r2 = 1 ∨ r2 = 2 := by omega
        rcases hr2 with rfl | rfl | rfl
        · exact ⟨a3, _, _, .non, rfl, rfl, SqT.of (tk8.t _ _ h3), rfl, by show 3 ≤ sizeLine; decide, fun ft hft => ⟨by show 2 ≤ sizeLine; decide, fun t ht => fin H8 _ (.preempt n m none) F8 (.cons (.int _) (.cons (.int _) (.cons .non .nil))) ⟨rfl, by simp [fldD, wayD, PyData.canLayAll0, PyData.canLay0], by simp [fldD, wayD, PyData.depthAll, PyData.depth]⟩ (nob (fun _ z => nomatch z) (fun _ _ z => nomatch z)) ft hft t ht⟩⟩
        · exact ⟨a3, _, _, .str "write", rfl, rfl, SqT.of (tk8.t _ _ h3), rfl, by show 3 ≤ sizeLine; decide, fun ft hft => ⟨by show 2 ≤ sizeLine; decide, fun t ht => fin H8 _ (.preempt n m (some "write")) F8 (.cons (.int _) (.cons (.int _) (.cons (.str _) .nil))) ⟨rfl, by simp only [fldD, wayD, PyData.canLayAll0, PyData.canLay0, ok_w "write" (by decide), Bool.and_self], by simp [fldD, wayD, PyData.depthAll, PyData.depth]⟩ (nob (fun _ z => nomatch z) (fun _ _ z => nomatch z)) ft hft t ht⟩⟩
        · exact ⟨a3, _, _, .str "alone", rfl, rfl, SqT.of (tk8.t _ _ h3), rfl, by show 3 ≤ sizeLine; decide, fun ft hft => ⟨by show 2 ≤ sizeLine; decide, fun t ht => fin H8 _ (.preempt n m (some "alone")) F8 (.cons (.int _) (.cons (.int _) (.cons (.str _) .nil))) ⟨rfl, by simp only [fldD, wayD, PyData.canLayAll0, PyData.canLay0, ok_w "alone" (by decide), Bool.and_self], by simp [fldD, wayD, PyData.depthAll, PyData.depth]⟩ (nob (fun _ z => nomatch z) (fun _ _ z => nomatch z)) ft hft t ht⟩⟩
      | false =>
      refine iteF ⟨_, rfl, rfl, _, rfl, ?_⟩
      rw [int_dec]
      cases c9 : decide (kd = 12) with
      | true =>
        exact iteT ⟨_, rfl, _, rfl, tp, q, 2, rfl, F5.t, by decide, by decide, fun r2 H6 r20 r21 o6 t6 => ⟨rfl, by show 2 ≤ sizeLine; decide, fun ft hft => ⟨by show 2 ≤ sizeLine; decide, fun t ht => fin H6 _ (.leave n (decide (V.int r2 = V.int 0))) (F5.off o6 t6 n1 n2) (.cons (.int _) (.cons (.bl _) .nil)) ⟨rfl, by simp [fldD, PyData.canLayAll0, PyData.canLay0], by simp [fldD, PyData.depthAll, PyData.depth]⟩ (nob (fun _ z => nomatch z) (fun _ _ z => nomatch z)) ft hft t ht⟩⟩⟩
      | false =>
      refine iteF ⟨_, rfl, _, rfl, tp, q, 4, rfl, F5.t, by decide, by decide, fun r2 H6 r20 r21 o6 t6 => ?_⟩
      have F6 := F5.off o6 t6 n1 n2
      exact ⟨_, rfl, tp, q, 5, rfl, F6.t, by decide, by decide, fun r3 H7 r30 r31 o7 t7 => ⟨by show 3 ≤ sizeLine; decide, fun ft hft => ⟨by show 2 ≤ sizeLine; decide, fun t ht => fin H7 _ (.write n r2 r3) (F6.off o7 t7 n1 n2) (.cons (.int _) (.cons (.int _) (.cons (.int _) .nil))) (bg_ints (l := [n, r2, r3]) rfl) (nob (fun _ z => nomatch z) (fun _ _ z => nomatch z)) ft hft t ht⟩⟩⟩
end
end Sg

set_option Elab.async false
set_option linter.all false
set_option maxRecDepth 100000
set_option maxHeartbeats 4000000
namespace Sg
open PySem PySem.Spec PyProof.Rows L2
/-! ### the records that are drawn -/
structure RS (K : PySem.W.Frag) (H : Hp) (tp q rl sp sn : Addr) (ts : List Addr) (rs : List Rc) (ns : List Int) (ps : List Addr) (xs : List IP) (Hx : Hp) : Prop where
  o : Off [tp] H Hx
  t : TapeQ K Hx tp q
  l : Hx rl = some (.lst (ts.map V.ref))
  pr : Paired (RecAt K Hx) ts rs
  s : Hx sp = some (.lst (ns.map V.int))
  n : Hx sn = some (.lst (ps.map V.ref))
  pp : Paired (PairAt Hx) ps xs
  f1 : H rl = Option.none
  f2 : H sp = Option.none
  f3 : H sn = Option.none
  d1 : rl ≠ sp
  d2 : rl ≠ sn
  d3 : sp ≠ sn
  g : ∀ r ∈ rs, RGood r
section
variable {K : PySem.W.Frag} {H Hx Hy : Hp} {tp q rl sp sn : Addr} {ts : List Addr} {rs : List Rc} {ns : List Int} {ps : List Addr} {xs : List IP}
theorem tape_ne {p q : Addr} {H : Hp} {x : Addr} (t : TapeQ K H p q) (h : H x = Option.none) : x ≠ p ∧ x ≠ q := by
  obtain ⟨ns, i, rest, seed, h1, h2, _⟩ := t
  exact ⟨(fun e => by rw [e, h1] at h; cases h), (fun e => by rw [e, h2] at h; cases h)⟩
theorem RS.same (h : RS K H tp q rl sp sn ts rs ns ps xs Hx) (s : Same Hx Hy) : RS K H tp q rl sp sn ts rs ns ps xs Hy :=
  ⟨h.o.trans (Off.of s), h.t.same s, s _ _ h.l, Paired.imp2 (fun _ _ z => z.same s) h.pr, s _ _ h.s, s _ _ h.n, Paired.imp2 (fun _ _ z => s _ _ z) h.pp, h.f1, h.f2, h.f3, h.d1, h.d2, h.d3, h.g⟩
theorem paired_rtk {H H' : Hp} (s : TK H H') : ∀ {ts : List Addr} {rs : List Rc}, (∀ r ∈ rs, RGood r) → Paired (RecAt K H) ts rs → Paired (RecAt K H') ts rs
  | _, _, _, .nil => .nil
  | _, _, g, .cons a b => .cons (a.tk (g _ List.mem_cons_self) s) (paired_rtk s (fun r hr => g r (List.mem_cons_of_mem _ hr)) b)
theorem RS.off (h : RS K H tp q rl sp sn ts rs ns ps xs Hx) (t0 : TapeQ K H tp q) (o : Off [tp] Hx Hy) (t : TapeQ K Hy tp q) : RS K H tp q rl sp sn ts rs ns ps xs Hy := by
  have n1 := (tape_ne t0 h.f1).1
  have n2 := (tape_ne t0 h.f2).1
  have n3 := (tape_ne t0 h.f3).1
  exact ⟨h.o.trans o, t, o _ _ h.l (by simpa using n1), paired_rtk (h.t.tk o) h.g h.pr, o _ _ h.s (by simpa using n2), o _ _ h.n (by simpa using n3), Paired.imp2 (fun _ _ z => (h.t.tk o).t _ _ z) h.pp, h.f1, h.f2, h.f3, h.d1, h.d2, h.d3, h.g⟩
theorem RS.fs (h : RS K H tp q rl sp sn ts rs ns ps xs Hx) : FS K Hx tp q sp sn ns ps xs Hx := ⟨Off.refl _, h.t, h.s, h.n, h.pp⟩
/-- one list of one's own is written -/
theorem RS.put (h : RS K H tp q rl sp sn ts rs ns ps xs Hx) (t0 : TapeQ K H tp q) {x : Addr} {l l' : List V} (hx : Hx x = some (.lst l)) (hf : H x = Option.none) : Off [tp] H (upd Hx x (.lst l')) ∧ TapeQ K (upd Hx x (.lst l')) tp q ∧ TK Hx (upd Hx x (.lst l')) := by
  have n := tape_ne t0 hf
  refine ⟨fun b u e m => by rw [upd_ne (ne_of_none e hf)]; exact h.o _ _ e m, h.t.off (xs := [x]) (Off.upd (by simp)) (by simpa using fun e => n.1 e.symm) (by simpa using fun e => n.2 e.symm), TK.off (xs := [x]) (Off.upd (by simp)) fun y hy => by rw [List.mem_singleton.mp hy]; exact .inl ⟨_, hx⟩⟩
theorem RS.setL (h : RS K H tp q rl sp sn ts rs ns ps xs Hx) (t0 : TapeQ K H tp q) {ts' : List Addr} {rs' : List Rc} (pr : Paired (RecAt K Hx) ts' rs') (g : ∀ r ∈ rs', RGood r) : RS K H tp q rl sp sn ts' rs' ns ps xs (upd Hx rl (.lst (ts'.map V.ref))) := by
  obtain ⟨a, b, c⟩ := h.put t0 (l' := ts'.map V.ref) h.l h.f1
  exact ⟨a, b, upd_same, paired_rtk c g pr, by rw [upd_ne (fun e => h.d1 e.symm)]; exact h.s, by rw [upd_ne (fun e => h.d2 e.symm)]; exact h.n, Paired.imp2 (fun _ _ z => c.t _ _ z) h.pp, h.f1, h.f2, h.f3, h.d1, h.d2, h.d3, g⟩
theorem RS.setS (h : RS K H tp q rl sp sn ts rs ns ps xs Hx) (t0 : TapeQ K H tp q) {ns' : List Int} : RS K H tp q rl sp sn ts rs ns' ps xs (upd Hx sp (.lst (ns'.map V.int))) := by
  obtain ⟨a, b, c⟩ := h.put t0 (l' := ns'.map V.int) h.s h.f2
  exact ⟨a, b, by rw [upd_ne h.d1]; exact h.l, paired_rtk c h.g h.pr, upd_same, by rw [upd_ne (fun e => h.d3 e.symm)]; exact h.n, Paired.imp2 (fun _ _ z => c.t _ _ z) h.pp, h.f1, h.f2, h.f3, h.d1, h.d2, h.d3, h.g⟩
theorem RS.setN (h : RS K H tp q rl sp sn ts rs ns ps xs Hx) (t0 : TapeQ K H tp q) {ps' : List Addr} {xs' : List IP} (pp : Paired (PairAt Hx) ps' xs') : RS K H tp q rl sp sn ts rs ns ps' xs' (upd Hx sn (.lst (ps'.map V.ref))) := by
  obtain ⟨a, b, c⟩ := h.put t0 (l' := ps'.map V.ref) h.n h.f3
  exact ⟨a, b, by rw [upd_ne h.d2]; exact h.l, paired_rtk c h.g h.pr, by rw [upd_ne h.d3]; exact h.s, upd_same, Paired.imp2 (fun _ _ z => c.t _ _ z) pp, h.f1, h.f2, h.f3, h.d1, h.d2, h.d3, h.g⟩
/-- another list is the snapshots now -/
theorem RS.newN (h : RS K H tp q rl sp sn ts rs ns ps xs Hx) {D : Addr} {ps' : List Addr} {xs' : List IP} (hD : Hx D = some (.lst (ps'.map V.ref))) (pp : Paired (PairAt Hx) ps' xs') (f : H D = Option.none) (d2 : rl ≠ D) (d3 : sp ≠ D) : RS K H tp q rl sp D ts rs ns ps' xs' Hx :=
  ⟨h.o, h.t, h.l, h.pr, h.s, hD, pp, h.f1, h.f2, f, h.d1, d2, d3, h.g⟩
theorem RS.tkS (h : RS K H tp q rl sp sn ts rs ns ps xs Hx) (t0 : TapeQ K H tp q) {l : List V} : TK Hx (upd Hx sp (.lst l)) := (h.put t0 h.s h.f2).2.2
theorem RS.tkL (h : RS K H tp q rl sp sn ts rs ns ps xs Hx) (t0 : TapeQ K H tp q) {l : List V} : TK Hx (upd Hx rl (.lst l)) := (h.put t0 h.l h.f1).2.2
theorem RS.tkN (h : RS K H tp q rl sp sn ts rs ns ps xs Hx) (t0 : TapeQ K H tp q) {l : List V} : TK Hx (upd Hx sn (.lst l)) := (h.put t0 h.n h.f3).2.2
end
theorem prD_eqv {x y : IP} : PyData.eqv (prD x) (prD y) = decide (x = y) := by
  obtain ⟨a, b⟩ := x
  obtain ⟨c, d⟩ := y
  simp only [prD, PyData.eqv, PyData.eqvAll, Bool.and_true]
  by_cases h1 : a = c <;> by_cases h2 : b = d <;> simp [h1, h2]
theorem first_at {k : Int} : ∀ {ns : List Int}, k ∈ ns → ∃ j, ns[j]? = some k ∧ ∀ m : Nat, m < j → ns[m]? ≠ some k
  | [], h => nomatch h
  | x :: ns, h => by
    by_cases c : x = k
    · exact ⟨0, by rw [c]; rfl, fun m hm => absurd hm (Nat.not_lt_zero _)⟩
    · obtain ⟨j, h1, h2⟩ := first_at (ns := ns) ((List.mem_cons.mp h).resolve_left fun e => c e.symm)
      refine ⟨j + 1, by simpa using h1, fun m hm => ?_⟩
      cases m with
      | zero => intro e; exact c (by simpa using e)
      | succ m => simpa using h2 m (by omega)
theorem find_pr {x : IP} : ∀ {xs : List IP}, x ∈ xs → ∃ j, ((xs.map prD).findIdx? fun y => PyData.eqv y (prD x)) = some j
  | [], h => nomatch h
  | y :: xs, h => by
    rw [List.map_cons, List.findIdx?_cons, prD_eqv]
    by_cases c : y = x
    · exact ⟨0, by rw [decide_eq_true c]; rfl⟩
    · obtain ⟨j, hj⟩ := find_pr (xs := xs) ((List.mem_cons.mp h).resolve_left fun e => c e.symm)
      exact ⟨j + 1, by rw [decide_eq_false c, hj]; rfl⟩
theorem paired_erase {α β : Type} {F : α → β → Prop} : ∀ {a : List α} {b : List β} {j : Nat}, Paired F a b → Paired F (a.eraseIdx j) (b.eraseIdx j)
  | _, _, _, .nil => .nil
  | _, _, 0, .cons _ t => t
  | _, _, j + 1, .cons r t => .cons r (paired_erase t)
theorem erase_mapR : ∀ (l : List Addr) (j : Nat), (l.map V.ref).eraseIdx j = (l.eraseIdx j).map V.ref
  | [], j => by simp
  | a :: r, 0 => by simp
  | a :: r, j + 1 => by simp [erase_mapR r j]
theorem kind_make {b : Bd} : kindS b = "make" → ∃ n z, b = .make n z := by
  cases b with
  | make n z => exact fun _ => ⟨n, z, rfl⟩
  | _ => exact fun h => absurd h (by dsimp only [kindS]; decide)
theorem kind_snap {b : Bd} : kindS b = "snap" → ∃ n, b = .snap n := by
  cases b with
  | snap n => exact fun _ => ⟨n, rfl⟩
  | _ => exact fun h => absurd h (by dsimp only [kindS]; decide)
theorem kind_drop {b : Bd} : kindS b = "drop" → ∃ n z, b = .drop n z := by
  cases b with
  | drop n z => exact fun _ => ⟨n, z, rfl⟩
  | _ => exact fun h => absurd h (by dsimp only [kindS]; decide)
theorem fld_ne {K : PySem.W.Frag} {H : Hp} {b : Bd} (h : DpAll K H [] (fldD b)) : False := by
  cases b <;> (dsimp only [fldD] at h; cases h)
def spLRecords (K : PySem.W.Frag) : Sp := fun vs H Q _ => ∃ (tp q : Addr) (most : Int), vs = [.ref tp, .int most] ∧ TapeQ K H tp q ∧ 0 < most ∧ most ≤ 50 ∧
  ∀ l ts rs H', Off [tp] H H' → TapeQ K H' tp q → H l = Option.none → H' l = some (.lst (ts.map V.ref)) → Paired (RecAt K H') ts rs → rs.Pairwise (fun x y => x.o < y.o) → (∀ r ∈ rs, RGood r) → (rs.length : Int) ≤ most → 0 < rs.length → Q (.ref l) H'
theorem rgood_of {o h s c : Int} {b : Bd} (g : BGood b) (hk : PyData.strOk (kindS b) = true) : RGood ⟨o, h, s, c, b⟩ := by
  refine ⟨g.t, ?_, ?_⟩
  · simp only [recDt, PyData.canLay0, PyData.canLayAll0, hk, g.l, Bool.and_self]
  · have := g.dp
    simp only [recDt, PyData.depth, PyData.depthAll]
    omega
theorem kind_ok (b : Bd) : PyData.strOk (kindS b) = true := by
  have w : ∀ s ∈ (["mark", "make", "remove", "write", "trim", "snap", "drop", "register", "leave", "reserve", "release", "preempt"] : List Str), PyData.strOk s = true := by decide +kernel
  cases b <;> exact w _ (by dsimp only [kindS]; decide)
section
variable {P : Program} {wd : World} {K : PySem.W.Frag} {mg : Str → Option Value} {base : Heap} {f fN fF : Addr} {fd fdN fdF : FuncData}
theorem scLRecords : FnScope ["tape", "most", "records", "spaces", "snaps", "order", "turn", "kind", "fields", "counter", "snap"] ["tape", "most"] (defScope sLRecords) := ⟨rfl, rfl, rfl, by decide +kernel, rfl, by decide +kernel, by decide +kernel⟩
theorem ok_lrecords (F : Fun K "_law_records" "_law_records" sLRecords f fd) (B : BN mg) (GN : Def P wd K mg base CX0 "_law_next" 1 ["tape", "many"] (spNext K) fN fdN) (GF : Def P wd K mg base CX0 "_law_fields" 2 ["tape", "spaces", "snaps"] (spLFields K) fF fdF) : FnOk P wd K mg base CX0 3 f fd ["tape", "most"] (spLRecords K) := by
  refine F.ok scLRecords (fun vs H Q E h => ?_) (fun cdv A outer s H vs Q E hr h => ?_)
  · obtain ⟨tp, q, most, rfl, _⟩ := h
    rfl
  · obtain ⟨tp, q, most, rfl, t0, hm0, hm1, k⟩ := h
    have hr1 : Room 1 _ := hr.mono (by decide)
    refine ⟨_, (pss_cons (ps_set (i := 2) scLRecords.nd rfl (Or.inl rfl) (pe_lst pa_nil))
      (pss_cons (ps_set (i := 3) scLRecords.nd rfl (Or.inl rfl) (pe_lst pa_nil))
      (pss_cons (ps_set (i := 4) scLRecords.nd rfl (Or.inl rfl) (pe_lst pa_nil))
      (pss_cons (ps_set (i := 5) scLRecords.nd rfl (Or.inl rfl) pe_int)
      (pss_cons (ps_for PassesOwn.never rfl (pi_range1 (by rfl) B.range (pa_cons (pe_op op_add pe_int (pe_call GN.ok hr1 (by rfl) GN.mg GN.kp GN.bd .nil pass0 (pa_cons (pv 0) (pa_cons (pv 1) pa_nil)))) pa_nil)) (pg_name (i := 6) scLRecords.nd rfl (Or.inl rfl))
      (pss_cons (ps_set (i := 5) scLRecords.nd rfl (Or.inl rfl) (pe_op op_add (pe_op op_add (pv 5) pe_int) (pe_op op_fdiv (pe_call GN.ok hr1 (by rfl) GN.mg GN.kp GN.bd .nil pass0 (pa_cons (pv 0) (pa_cons pe_int pa_nil))) pe_int)))
      (pss_cons (ps_asg (pe_call GF.ok hr (by rfl) GF.mg GF.kp GF.bd .nil pass0 (pa_cons (pv 0) (pa_cons (pv 3) (pa_cons (pv 4) pa_nil)))) (pg_tup (by rfl) (pgs_cons (pg_name (i := 7) scLRecords.nd rfl (Or.inl rfl)) (pgs_cons (pg_name (i := 8) scLRecords.nd rfl (Or.inr rfl)) L2.pgs_nil))))
      (pss_cons (ps_set (i := 9) scLRecords.nd rfl (Or.inl rfl) (pe_op op_mod (pv 6) pe_int))
      (Evl.pss_cut (ps_if (pt_cmpR op_eq (pv 7) pe_str (nomark _))
      (pss_one (ps_set (i := 9) scLRecords.nd rfl (Or.inl rfl) pe_int)) (pss_one (ps_if (pt_cmpR op_eq (pv 9) pe_int (nomark _))
      (pss_one (ps_set (i := 9) scLRecords.nd rfl (Or.inl rfl) pe_int)) pss_nil)))
      (pss_cons (ps_expr (pe_bm PySem.F.plainAttrs_list PySem.F.slot_list_append PySem.F.type_list_append mt_append (pv 2) (pa_cons (pe_op op_catT (pe_tup (pa_cons (pv 5) (pa_cons (pv 7) (pa_cons (pe_call GN.ok hr1 (by rfl) GN.mg GN.kp GN.bd .nil pass0 (pa_cons (pv 0) (pa_cons pe_int pa_nil))) (pa_cons (pe_op op_add pe_int (pe_op op_fdiv (pv 6) pe_int)) (pa_cons (pv 9) pa_nil)))))) (pe_callTy call_tuple_of (by rfl) B.tuple (by decide +kernel) (pa_cons (pv 8) pa_nil))) pa_nil)))
      (Evl.pss_cut (ps_if (pt_cmpR op_eq (pv 7) pe_str (nomark _))
      (pss_one (ps_expr (pe_bm PySem.F.plainAttrs_list PySem.F.slot_list_append PySem.F.type_list_append mt_append (pv 3) (pa_cons (pe_ix ix_tup (pv 8) pe_int (fun _ _ => rfl)) pa_nil)))) pss_nil)
      (Evl.pss_cut (ps_if (pt_cmpR op_eq (pv 7) pe_str (nomark _))
      (pss_one (ps_expr (pe_bm PySem.F.plainAttrs_list PySem.F.slot_list_append PySem.F.type_list_append mt_append (pv 4) (pa_cons (pe_tup (pa_cons (pe_ix ix_tup (pv 8) pe_int (fun _ _ => rfl)) (pa_cons (pv 5) pa_nil))) pa_nil)))) pss_nil)
      (Evl.pss_cut (ps_if (pt_cmpR op_eq (pv 7) pe_str (nomark _))
      (pss_cons (ps_expr (pe_bm PySem.F.plainAttrs_list PySem.F.slot_list_remove PySem.F.type_list_remove mt_remove (pv 3) (pa_cons (pe_ix ix_tup (pv 8) pe_int (fun _ _ => rfl)) pa_nil)))
      (pss_one (ps_setLc (i := 4) (own := [("snap", 10)]) (g := gName 10) (tt := tTest (tOp rNe (tOp (rIxT K) (tVar 10) (tC (.int 0))) (tOp (rIxT K) (tVar 8) (tC (.int 0))))) (te := tVar 10) (by rfl) scLRecords.nd rfl rfl (sw_true rfl rfl rfl (by decide +kernel)) (pi_list (pv 4)) (blkOk_by (own := [("snap", 10)]) (N := ["tape", "most", "records", "spaces", "snaps", "order", "turn", "kind", "fields", "counter", "snap"]) (sc := defScope sLRecords) (by decide +kernel)) (fun _ _ _ _ _ => pg_name (i := 10) scLRecords.nd rfl (Or.inl rfl)) (fun _ _ _ _ _ => pts_one (pt_cmpR op_ne (pe_ix ix_tup (pv 10) pe_int (fun _ _ => rfl)) (pe_ix ix_tup (pv 8) pe_int (fun _ _ => rfl)) (nomark _))) (fun _ _ _ _ _ => by exact (pv 10))))) pss_nil)
      (pss_one (ps_if (pt_cmpR op_eq (pv 7) pe_str (nomark _))
      (pss_one (ps_expr (pe_bm PySem.F.plainAttrs_list PySem.F.slot_list_remove PySem.F.type_list_remove (mt_removeD (hu65 hr)) (pv 4) (pa_cons (pv 8) pa_nil)))) pss_nil)))))))))))
      (pss_one (ps_ret (pv 2)))))))), ?_⟩
    refine ⟨by show 0 ≤ sizeLine; decide, fun rl hrl => ⟨by show 0 ≤ sizeLine; decide, fun sp hsp => ⟨by show 0 ≤ sizeLine; decide, fun sn hsn => ?_⟩⟩⟩
    have R0 : RS K H tp q rl sp sn [] [] [] [] [] (upd (upd (upd H rl (.lst [])) sp (.lst [])) sn (.lst [])) := by
      have s1 := same_new (o := .lst []) hrl
      have s2 := same_new (o := .lst []) hsp
      have s3 := same_new (o := .lst []) hsn
      have e1 : (upd H rl (.lst [])) rl = some (.lst []) := upd_same
      exact ⟨Off.of (s1.trans (s2.trans s3)), t0.same (s1.trans (s2.trans s3)), s3 _ _ (s2 _ _ e1), .nil, s3 _ _ upd_same, upd_same, .nil, hrl, s1.free hsp, (s1.trans s2).free hsn, fun e => (ne_of_none e1 hsp) e, fun e => (ne_of_none (s2 _ _ e1) hsn) e, fun e => (ne_of_none (upd_same (H := upd H rl (.lst [])) (o := .lst [])) hsn) e, fun r hr => nomatch hr⟩
    generalize upd (upd (upd H rl (.lst [])) sp (.lst [])) sn (.lst []) = H1 at R0
    refine ⟨_, rfl, _, rfl, tp, q, most, rfl, R0.t, hm0, by omega, fun cnt H2 c0 c1 o2 t2 => ?_⟩
    have R1 := R0.off t0 o2 t2
    refine ⟨_, _, rfl, rfl, nil_ ⟨_, rfl, by omega, by omega, ?_⟩⟩
    refine for_range (lo := 0) (n := (1 + cnt).toNat) (fun i σ Hx => ∃ (v6 v7 v8 v9 v10 : Option V) (sn : Addr) (ts : List Addr) (rs : List Rc) (ns : List Int) (ps : List Addr) (xs : List IP) (o : Int), σ = [some (.ref tp), some (.int most), some (.ref rl), some (.ref sp), some (.ref sn), some (.int o), v6, v7, v8, v9, v10] ∧ RS K H tp q rl sp sn ts rs ns ps xs Hx ∧ rs.length = i ∧ ns.length ≤ i ∧ xs.length ≤ i ∧ rs.Pairwise (fun x y => x.o < y.o) ∧ ∀ r ∈ rs, r.o ≤ o)
      ⟨_, _, _, _, _, sn, [], [], [], [], [], 0, rfl, R1, rfl, Nat.le_refl _, Nat.le_refl _, .nil, fun r hr => nomatch hr⟩ ?_ ?_
    · rintro i σ H3 hi ⟨v6, v7, v8, v9, v10, sn, ts, rs, ns, ps, xs, o, rfl, R3, lr, ln, lx, asc, le⟩
      have hi50 : i < 50 := by omega
      refine ⟨_, rfl, _, _, rfl, rfl, _, rfl, tp, q, 5, rfl, R3.t, by decide, by decide, fun g H4 g0 g1 o4 t4 => ?_⟩
      have R4 := R3.off t0 o4 t4
      refine ⟨_, _, rfl, rfl, ⟨by decide, by decide⟩, _, _, rfl, rfl, ?_⟩
      refine ⟨_, rfl, _, rfl, _, rfl, tp, q, sp, sn, ns, ps, xs, rfl, R4.fs, (tape_ne t0 R4.f2).1, (tape_ne t0 R4.f3).1, by omega, by omega, fun v b H5 F5 dv bg bi => ?_⟩
      have R5 := R4.off t0 F5.o F5.t
      have lto : o < o + 1 + g / 4 := by
        have : 0 ≤ g / 4 := Int.ediv_nonneg g0 (by decide)
        omega
      cases dv with
      | tup hv hvs =>
      obtain ⟨x1, r1, rfl, e1, b1⟩ := dpAll_cons hvs
      obtain rfl := dp_strv e1
      obtain ⟨x2, r2, rfl, e2, b2⟩ := dpAll_cons b1
      obtain rfl := dpAll_nil b2
      cases e2 with
      | @tup ft ys _ hft hys =>
      refine ⟨_, _, rfl, hv, rfl, _, _, rfl, _, _, rfl, rfl, ?_⟩
      refine ⟨_, rfl, _, _, rfl, rfl, (by show (0 : Int) < 9; decide), ?_⟩
      refine ⟨fun σ Hx => ∃ c, σ = [some (.ref tp), some (.int most), some (.ref rl), some (.ref sp), some (.ref sn), some (.int (o + 1 + g / 4)), some (.int (0 + (i : Int))), some (.str (kindS b)), some (.ref ft), some (.int c), v10] ∧ Hx = H5, ?_, ?_⟩
      · refine ⟨_, rfl, rfl, _, rfl, ?_⟩
        by_cases ck : kindS b = "mark"
        · rw [ck, str_eqT]
          exact iteT ⟨_, rfl, rfl⟩
        · rw [str_eqF ck]
          refine iteF ⟨_, rfl, rfl, _, rfl, ?_⟩
          rw [int_dec]
          cases c9 : decide ((0 + (i : Int)) % 9 = 0) with
          | true => exact iteT ⟨_, rfl, rfl⟩
          | false => exact iteF ⟨_, rfl, rfl⟩
      rintro σ Hx ⟨c, rfl, rfl⟩
      generalize o + 1 + g / 4 = o' at lto ⊢
      refine ⟨_, rfl, .inl ⟨rfl, _, SqL.of R5.l⟩, _, rfl, _, rfl, _, rfl, tp, q, 4, rfl, R5.t, by decide, by decide, fun hs H6 h0 h1 o6 t6 => ?_⟩
      have R6 := R5.off t0 o6 t6
      have tk6 := R5.t.tk o6
      have hft6 := sqT_tk hft tk6
      have hys6 := dpAll_tk tk6 _ _ bg.t hys
      refine ⟨_, rfl, _, _, rfl, rfl, ⟨by decide, by decide⟩, _, _, rfl, rfl, _, rfl, by show 5 ≤ sizeLine; decide, fun a5 ha5 => ?_⟩
      have s7 := same_new (o := .tup [.int o', .str (kindS b), .int hs, .int (1 + (0 + (i : Int)) / 9), .int c]) ha5
      have h7 : (upd H6 a5 (.tup [.int o', .str (kindS b), .int hs, .int (1 + (0 + (i : Int)) / 9), .int c])) a5 = some (.tup [.int o', .str (kindS b), .int hs, .int (1 + (0 + (i : Int)) / 9), .int c]) := upd_same
      have ylen : ys.length ≤ 3 := by
        have := fld_len b
        have e : ys.length = (fldD b).length := dpAll_len hys
        omega
      refine ⟨_, rfl, ft, _, rfl, .inr ⟨SqT_same s7 hft6, a5, ft, _, _, rfl, rfl, SqT.of h7, SqT_same s7 hft6, (by simp), by show 5 + ys.length ≤ 16777216; omega, fun e => by rw [e] at hys; exact (fld_ne hys).elim, fun _ p hp => ?_⟩⟩
      have s8 := s7.trans (same_new (o := .tup ([.int o', .str (kindS b), .int hs, .int (1 + (0 + (i : Int)) / 9), .int c] ++ ys)) hp)
      have h8 : (upd (upd H6 a5 (.tup [.int o', .str (kindS b), .int hs, .int (1 + (0 + (i : Int)) / 9), .int c])) p (.tup ([.int o', .str (kindS b), .int hs, .int (1 + (0 + (i : Int)) / 9), .int c] ++ ys))) p = some (.tup ([.int o', .str (kindS b), .int hs, .int (1 + (0 + (i : Int)) / 9), .int c] ++ ys)) := upd_same
      generalize upd (upd H6 a5 (.tup [.int o', .str (kindS b), .int hs, .int (1 + (0 + (i : Int)) / 9), .int c])) p (.tup ([.int o', .str (kindS b), .int hs, .int (1 + (0 + (i : Int)) / 9), .int c] ++ ys)) = H8 at s8 h8
      have R8 := R6.same s8
      have rat : RecAt K H8 p ⟨o', hs, 1 + (0 + (i : Int)) / 9, c, b⟩ := ⟨ys, SqT.of h8, dpAll_same s8 _ _ hys6⟩
      have rg : RGood ⟨o', hs, 1 + (0 + (i : Int)) / 9, c, b⟩ := rgood_of bg (kind_ok b)
      generalize hrr : (⟨o', hs, 1 + (0 + (i : Int)) / 9, c, b⟩ : Rc) = r at rat rg
      have ro : r.o = o' := by rw [← hrr]
      have tsl := R8.pr.length
      refine nil_ ⟨rl, _, _, rfl, rfl, R8.l, by rw [List.length_map]; exact small1000 (by omega), ?_⟩
      have gall : ∀ x ∈ rs ++ [r], RGood x := fun x hx => by
        rcases List.mem_append.mp hx with hx | hx
        · exact R8.g x hx
        · rw [List.mem_singleton.mp hx]; exact rg
      have R9 := R8.setL t0 (ts' := ts ++ [p]) (rs' := rs ++ [r]) (paired_append R8.pr (.cons rat .nil)) gall
      have tk9 : TK H8 (upd H8 rl (.lst ((ts ++ [p]).map V.ref))) := R8.tkL t0
      rw [List.map_append, List.map_cons, List.map_nil] at R9 tk9
      have hft9 := sqT_tk (SqT_same s8 hft6) tk9
      have hys9 := dpAll_tk tk9 _ _ bg.t (dpAll_same s8 _ _ hys6)
      generalize upd H8 rl (.lst (ts.map V.ref ++ [V.ref p])) = H9 at R9 hft9 hys9
      have asc' : (rs ++ [r]).Pairwise (fun x y => x.o < y.o) := by
        rw [List.pairwise_append]
        refine ⟨asc, by simp, fun x hx y hy => ?_⟩
        have := le x hx
        rw [List.mem_singleton.mp hy, ro]; omega
      have le' : ∀ x ∈ rs ++ [r], x.o ≤ o' := fun x hx => by
        rcases List.mem_append.mp hx with hx | hx
        · have := le x hx; omega
        · rw [List.mem_singleton.mp hx, ro]; exact Int.le_refl _
      have lr' : (rs ++ [r]).length = i + 1 := by rw [List.length_append, List.length_singleton, lr]
      generalize ts ++ [p] = ts2 at R9
      generalize rs ++ [r] = rs2 at R9 asc' le' lr'
      clear hys hft hft6 hys6 rat h8 h7 R8 R6 R5 R4 R3 R1 R0 F5
      refine ⟨fun σ Hx => ∃ ns', σ = [some (.ref tp), some (.int most), some (.ref rl), some (.ref sp), some (.ref sn), some (.int o'), some (.int (0 + (i : Int))), some (.str (kindS b)), some (.ref ft), some (.int c), v10] ∧ RS K H tp q rl sp sn ts2 rs2 ns' ps xs Hx ∧ SqT K Hx ft ys ∧ DpAll K Hx ys (fldD b) ∧ ns'.length ≤ i + 1 ∧ BIn b ns' xs, ?_, ?_⟩
      · refine ⟨_, rfl, rfl, _, rfl, ?_⟩
        by_cases ck : kindS b = "make"
        · rw [ck, str_eqT]
          obtain ⟨n, z, rfl⟩ := kind_make ck
          obtain ⟨x6, r6, rfl, e6, b6⟩ := dpAll_cons hys9
          obtain rfl := dp_int e6
          refine iteT ⟨_, rfl, .inl ⟨rfl, _, SqL.of R9.s⟩, _, rfl, ft, _, _, _, rfl, rfl, hft9, atI_nat (j := 0) rfl, nil_ ⟨sp, _, _, rfl, rfl, R9.s, by rw [List.length_map]; exact small1000 (by omega), ?_⟩⟩
          have tk := R9.tkS t0 (l := (ns ++ [n]).map V.int)
          have R10 := R9.setS t0 (ns' := ns ++ [n])
          rw [List.map_append] at tk R10
          exact ⟨ns ++ [n], rfl, R10, sqT_tk hft9 tk, dpAll_tk tk _ _ bg.t hys9, by rw [List.length_append, List.length_singleton]; omega, (fun _ e => nomatch e), fun _ _ e => nomatch e⟩
        · rw [str_eqF ck]
          exact iteF ⟨ns, rfl, R9, hft9, hys9, by omega, bi⟩
      rintro σ Hx ⟨ns2, rfl, R10, hft10, hys10, ln2, bi2⟩
      clear R9 hft9 hys9
      refine ⟨fun σ Hx => ∃ ps' xs', σ = [some (.ref tp), some (.int most), some (.ref rl), some (.ref sp), some (.ref sn), some (.int o'), some (.int (0 + (i : Int))), some (.str (kindS b)), some (.ref ft), some (.int c), v10] ∧ RS K H tp q rl sp sn ts2 rs2 ns2 ps' xs' Hx ∧ SqT K Hx ft ys ∧ DpAll K Hx ys (fldD b) ∧ xs'.length ≤ i + 1 ∧ BIn b ns2 xs', ?_, ?_⟩
      · refine ⟨_, rfl, rfl, _, rfl, ?_⟩
        by_cases ck : kindS b = "snap"
        · rw [ck, str_eqT]
          obtain ⟨n, rfl⟩ := kind_snap ck
          obtain ⟨x6, r6, rfl, e6, b6⟩ := dpAll_cons hys10
          obtain rfl := dp_int e6
          have pl := R10.pp.length
          refine iteT ⟨_, rfl, .inl ⟨rfl, _, SqL.of R10.n⟩, _, rfl, ft, _, _, _, rfl, rfl, hft10, atI_nat (j := 0) rfl, _, rfl, by show 2 ≤ sizeLine; decide, fun p hp => ?_⟩
          have sp' := same_new (o := .tup [.int n, .int o']) hp
          have hp' : (upd Hx p (.tup [.int n, .int o'])) p = some (.tup [.int n, .int o']) := upd_same
          generalize upd Hx p (.tup [.int n, .int o']) = Hy at sp' hp'
          have R11 := R10.same sp'
          refine nil_ ⟨sn, _, _, rfl, rfl, R11.n, by rw [List.length_map]; exact small1000 (by omega), ?_⟩
          have tk := R11.tkN t0 (l := (ps ++ [p]).map V.ref)
          have R12 := R11.setN t0 (ps' := ps ++ [p]) (xs' := xs ++ [(n, o')]) (paired_append R11.pp (.cons hp' .nil))
          rw [List.map_append] at tk R12
          exact ⟨ps ++ [p], xs ++ [(n, o')], rfl, R12, sqT_tk (SqT_same sp' hft10) tk, dpAll_tk tk _ _ bg.t (dpAll_same sp' _ _ hys10), by rw [List.length_append, List.length_singleton]; omega, (fun _ e => nomatch e), fun _ _ e => nomatch e⟩
        · rw [str_eqF ck]
          exact iteF ⟨ps, xs, rfl, R10, hft10, hys10, by omega, bi2⟩
      rintro σ Hx ⟨ps2, xs2, rfl, R11, hft11, hys11, lx2, bi3⟩
      clear R10 hft10 hys10
      have pl := R11.pp.length
      refine ⟨fun σ Hx => ∃ sn' ns' ps' xs' v10, σ = [some (.ref tp), some (.int most), some (.ref rl), some (.ref sp), some (.ref sn'), some (.int o'), some (.int (0 + (i : Int))), some (.str (kindS b)), some (.ref ft), some (.int c), v10] ∧ RS K H tp q rl sp sn' ts2 rs2 ns' ps' xs' Hx ∧ SqT K Hx ft ys ∧ DpAll K Hx ys (fldD b) ∧ ns'.length ≤ i + 1 ∧ xs'.length ≤ i + 1 ∧ ∀ n s, b = .drop n s → (n, s) ∈ xs', ?_, ?_⟩
      · refine ⟨_, rfl, rfl, _, rfl, ?_⟩
        by_cases ck : kindS b = "remove"
        · rw [ck, str_eqT]
          obtain ⟨n, rfl⟩ := kind_remove.mp ck
          obtain ⟨x6, r6, rfl, e6, b6⟩ := dpAll_cons hys11
          obtain rfl := dp_int e6
          obtain ⟨j, hj, hno⟩ := first_at (bi3.1 n rfl)
          refine iteT ⟨_, rfl, .inl ⟨rfl, _, SqL.of R11.s⟩, _, rfl, ft, _, _, _, rfl, rfl, hft11, atI_nat (j := 0) rfl, nil_ ⟨sp, _, _, _, rfl, rfl, R11.s, hj, hno, ?_⟩⟩
          have tk := R11.tkS t0 (l := (ns2.eraseIdx j).map V.int)
          have R12 := R11.setS t0 (ns' := ns2.eraseIdx j)
          have hft12 := sqT_tk hft11 tk
          have hys12 := dpAll_tk tk _ _ bg.t hys11
          have lne := List.length_eraseIdx_le ns2 j
          generalize upd Hx sp (.lst ((ns2.eraseIdx j).map V.int)) = Hy at R12 hft12 hys12
          refine ⟨_, rfl, sn, rfl, ⟨_, SqL.of R12.n⟩, fun D hD => ?_⟩
          have nD1 : rl ≠ D := fun e => by have := R12.l; rw [e, hD] at this; cases this
          have nD2 : sp ≠ D := fun e => by have := R12.s; rw [e, hD] at this; cases this
          refine lc_filtB (xs2.map fun x => !decide (x.1 = n)) (by rw [List.length_map, List.length_map, pl]) hD (SqL.of R12.n) (fun _ => rfl) (by rw [List.length_map]; exact Nat.le_of_lt (small1000 (by omega))) (fun i' x' b' H' Q' hx' hb' sm' kk' => ?_) (fun x' H' Q' hm' kk' => ⟨_, rfl, kk'⟩) fun Hz sz hDl => ?_
          · obtain ⟨t', hti', rfl⟩ := map_get hx'
            obtain ⟨w, hwi, hw0⟩ := paired_at R12.pp hti'
            rw [List.getElem?_map, hwi] at hb'
            cases hb'
            dsimp only at kk'
            refine ⟨_, rfl, t', _, _, _, rfl, rfl, SqT.of (sm' _ _ hw0), atI_nat (j := 0) rfl, _, rfl, ft, _, _, _, rfl, rfl, SqT_same sm' hft12, atI_nat (j := 0) rfl, rfl, _, rfl, ?_⟩
            rw [int_dec]
            exact kk' H' (Same.refl H')
          · obtain ⟨ps3, e3, pr3⟩ := keepB_paired (p := fun x : IP => !decide (x.1 = n)) R12.pp
            rw [e3] at hDl
            have R13 := R12.same sz
            exact ⟨D, ns2.eraseIdx j, ps3, _, _, rfl, R13.newN hDl (Paired.imp2 (fun _ _ z => sz _ _ z) pr3) (by
              cases hh : H D with
              | none => rfl
              | some u =>
                have n0 : D ≠ tp := fun e => by
                  obtain ⟨l, hl⟩ := R12.t.lst
                  rw [e, hl] at hD; cases hD
                have := R12.o D u hh (by simpa using n0)
                rw [this] at hD; cases hD) nD1 nD2, SqT_same sz hft12, dpAll_same sz _ _ hys12, by omega, Nat.le_trans (List.length_filter_le _ _) lx2, fun _ _ e => nomatch e⟩
        · rw [str_eqF ck]
          exact iteF ⟨sn, ns2, ps2, xs2, _, rfl, R11, hft11, hys11, ln2, lx2, bi3.2⟩
      rintro σ Hx ⟨sn', ns3, ps3, xs3, v10', rfl, R12, hft12, hys12, ln3, lx3, bi4⟩
      clear R11 hft11 hys11
      refine ⟨_, rfl, rfl, _, rfl, ?_⟩
      by_cases ck : kindS b = "drop"
      · rw [ck, str_eqT]
        obtain ⟨n, z, rfl⟩ := kind_drop ck
        obtain ⟨j, hj⟩ := find_pr (bi4 n z rfl)
        refine iteT ⟨_, rfl, .inl ⟨rfl, _, SqL.of R12.n⟩, _, rfl, nil_ ⟨sn', _, _, prD (n, z), _, j, rfl, rfl, R12.n, prs_dp R12.pp, .tup hft12 hys12, PyData.plainAll_of_canLay0 _ prs_lay.1, PyData.plain_of_canLay0 _ (by simp [prD, PyData.canLay0, PyData.canLayAll0]), by simp [prD, PyData.depth, PyData.depthAll], hj, ?_⟩⟩
        rw [erase_mapR]
        have R13 := R12.setN t0 (ps' := ps3.eraseIdx j) (xs' := xs3.eraseIdx j) (paired_erase R12.pp)
        have := List.length_eraseIdx_le xs3 j
        exact ⟨_, _, _, _, _, sn', ts2, rs2, ns3, ps3.eraseIdx j, xs3.eraseIdx j, o', rfl, R13, lr', ln3, by omega, asc', le'⟩
      · rw [str_eqF ck]
        exact iteF ⟨_, _, _, _, _, sn', ts2, rs2, ns3, ps3, xs3, o', rfl, R12, lr', ln3, lx3, asc', le'⟩
    · rintro σ H3 ⟨v6, v7, v8, v9, v10, sn, ts, rs, ns, ps, xs, o, rfl, R3, lr, ln, lx, asc, le⟩
      exact ⟨_, rfl, k rl ts rs H3 R3.o R3.t R3.f1 R3.l R3.pr asc R3.g (by omega) (by omega)⟩
end
end Sg

set_option Elab.async false
set_option linter.all false
set_option maxRecDepth 100000
set_option maxHeartbeats 4000000
namespace Sg
open PySem PySem.Spec PyProof.Rows L2
/-! ### the rows of the program: their model -/
def rowsF (rs : List Rc) (k : List Key) : List Rw := (rs.map fun r => rowsE r.o k (effR r)).flatten
def hidF (rs : List Rc) (k : List Key) (o num : Int) : Bool := if strIn (word k) ["host", "told"] = true then false else (rowsF rs (goneK (spaceK k))).any fun x => decide (o < x.1) && decide (x.1 < num)
def lastShown (rs : List Rc) (k : List Key) (num : Int) : Option Rw := match ((rowsF rs k).filter fun x => decide (x.1 < num)).getLast? with
  | none => none
  | some x => if hidF rs k x.1 num = true then none else some x
def presentO (rs : List Rc) : Int := match rs.getLast? with
  | none => 1
  | some r => r.o + 1
def effsF (rs : List Rc) : List Ef := (rs.map effR).flatten
theorem rowsF_snoc {rs : List Rc} {r : Rc} {k : List Key} : rowsF (rs ++ [r]) k = rowsF rs k ++ rowsE r.o k (effR r) := by
  unfold rowsF
  rw [List.map_append, List.flatten_append]
  show _ ++ (rowsE r.o k (effR r) ++ []) = _
  rw [List.append_nil]
theorem effR_len {r : Rc} : (effR r).length ≤ 3 := by
  have : (effB r.o r.h r.b).length ≤ 2 := effB_len
  show (effB r.o r.h r.b).length + 1 ≤ 3
  omega
theorem rowsF_len {k : List Key} : ∀ {rs : List Rc}, (rowsF rs k).length ≤ 3 * rs.length
  | [] => by simp [rowsF]
  | r :: rs => by
    have ih := rowsF_len (k := k) (rs := rs)
    have e1 : rowsF (r :: rs) k = rowsE r.o k (effR r) ++ rowsF rs k := by unfold rowsF; rw [List.map_cons, List.flatten_cons]
    have e2 : (rowsE r.o k (effR r)).length ≤ (effR r).length := List.length_filterMap_le _ _
    have e3 := effR_len (r := r)
    rw [e1, List.length_append, List.length_cons]; omega
theorem effR_k {r : Rc} : ∀ e ∈ effR r, KOk e.1 := by
  intro e he
  rcases List.mem_cons.mp he with rfl | he
  · intro x hx s hs
    rcases List.mem_cons.mp hx with rfl | hx
    · cases hs; decide +kernel
    · rw [List.mem_singleton.mp hx] at hs; cases hs
  · exact effB_k e he
theorem effR_form {r : Rc} : ∀ e ∈ effR r, TForm e.1 := by
  intro e he
  rcases List.mem_cons.mp he with rfl | he
  · exact ⟨"host", r.h, [], rfl⟩
  · exact effB_form e he
theorem effR_t {r : Rc} (g : RGood r) : ∀ e ∈ effR r, tupO e.2 = true := by
  intro e he
  rcases List.mem_cons.mp he with rfl | he
  · show tupO (.tuple [.int r.s, .int r.c, answD (kindS r.b) r.o]) = true
    unfold answD
    split
    · rfl
    · split <;> rfl
  · exact effB_t g e he
/-! ### the rows of the program, in the heap -/
def rf (ol : Addr) (pr : Int) (bt bg sn : Addr) : List (Str × V) := [("ordered", .ref ol), ("present", .int pr), ("_by_topic", .ref bt), ("_begins", .ref bg), ("_snapshots", .ref sn)]
theorem rf_or {ol bt bg sn : Addr} {pr : Int} : List.lookup ("ordered" : Str) (rf ol pr bt bg sn) = some (V.ref ol) := lk_here
theorem rf_pr {ol bt bg sn : Addr} {pr : Int} : List.lookup ("present" : Str) (rf ol pr bt bg sn) = some (V.int pr) := (lk_past (by decide)).trans lk_here
theorem rf_bt {ol bt bg sn : Addr} {pr : Int} : List.lookup ("_by_topic" : Str) (rf ol pr bt bg sn) = some (V.ref bt) := (lk_past (by decide)).trans ((lk_past (by decide)).trans lk_here)
theorem rf_bg {ol bt bg sn : Addr} {pr : Int} : List.lookup ("_begins" : Str) (rf ol pr bt bg sn) = some (V.ref bg) := (lk_past (by decide)).trans ((lk_past (by decide)).trans ((lk_past (by decide)).trans lk_here))
theorem rf_sn {ol bt bg sn : Addr} {pr : Int} : List.lookup ("_snapshots" : Str) (rf ol pr bt bg sn) = some (V.ref sn) := (lk_past (by decide)).trans ((lk_past (by decide)).trans ((lk_past (by decide)).trans ((lk_past (by decide)).trans lk_here)))
theorem rf_no {m : Str} {ol bt bg sn : Addr} {pr : Int} (h1 : (m == ("ordered" : Str)) = false) (h2 : (m == ("present" : Str)) = false) (h3 : (m == ("_by_topic" : Str)) = false) (h4 : (m == ("_begins" : Str)) = false) (h5 : (m == ("_snapshots" : Str)) = false) : List.lookup m (rf ol pr bt bg sn) = none :=
  (lk_past h1).trans ((lk_past h2).trans ((lk_past h3).trans ((lk_past h4).trans ((lk_past h5).trans rfl))))
structure CT (K : PySem.W.Frag) (mg : Str → Option Value) (C : Addr) : Prop where
  cl : Cls K C
  k_or : NoAttr K C "ordered"
  k_pr : NoAttr K C "present"
  k_bt : NoAttr K C "_by_topic"
  k_be : NoAttr K C "_begins"
  k_sn : NoAttr K C "_snapshots"
  gC : mg "Rows" = some (.ref C)
abbrev TKV := List (List Key × V)
structure BT (K : PySem.W.Frag) (H : Hp) (bt : Addr) (rs : List Rc) (kvs : TKV) : Prop where
  d : Rd H bt (.dT kvs)
  nd : (kvs.map (·.1)).Nodup
  yes : ∀ k, rowsF rs k ≠ [] → ∃ l ps, valV kvs k = some (.ref l) ∧ H l = some (.lst (ps.map V.ref)) ∧ Paired (RowAt K H) ps (rowsF rs k)
  no : ∀ k, rowsF rs k = [] → valV kvs k = none
  ln : kvs.length ≤ 3 * rs.length
theorem rd_same {H H' : Hp} {a : Addr} {o : HO} (h : Rd H a o) (s : Same H H') : Rd H' a o := by
  rcases h with h | ⟨b, h⟩
  · exact .inl (s _ _ h)
  · exact .inr ⟨b, s _ _ h⟩
theorem BT.same {K : PySem.W.Frag} {H H' : Hp} {bt : Addr} {rs : List Rc} {kvs : TKV} (h : BT K H bt rs kvs) (s : Same H H') : BT K H' bt rs kvs :=
  ⟨rd_same h.d s, h.nd, fun k hk => by
    obtain ⟨l, ps, a, b, c⟩ := h.yes k hk
    exact ⟨l, ps, a, s _ _ b, paired_rsame s c⟩, h.no, h.ln⟩
/-- the object, as far as its rows go -/
def RO (K : PySem.W.Frag) (C : Addr) (H : Hp) (p : Addr) (rs : List Rc) : Prop := ∃ dx ol bt bg sn kvs, H p = some (.ins C dx (rf ol (presentO rs) bt bg sn)) ∧ BT K H bt rs kvs
theorem RO.same {K : PySem.W.Frag} {C : Addr} {H H' : Hp} {p : Addr} {rs : List Rc} (h : RO K C H p rs) (s : Same H H') : RO K C H' p rs := by
  obtain ⟨dx, ol, bt, bg, sn, kvs, a, b⟩ := h
  exact ⟨dx, ol, bt, bg, sn, kvs, s _ _ a, b.same s⟩
def KeyAt (H : Hp) (t : Addr) (k : List Key) : Prop := H t = some (.tup (k.map kV))
/-- [f(x) for x in a list], no condition: what comes of each is told -/
theorem lc_mapL {K : PySem.W.Frag} {σ : L2.St} {H1 : Hp} {D a : Addr} {vs : List Nat} {g : TG} {xs : List V} {te : TE} {Qd : Hp → Prop} (ys : List V) (hb : ys.length = xs.length) (hD : H1 D = Option.none) (hx : SqL K H1 a xs) (hz : xs.length ≤ sizeLine)
    (he : ∀ (i : Nat) (x y : V) (H' : Hp) (R : VK) (R' : Hp → Prop), xs[i]? = some x → ys[i]? = some y → Same H1 H' → (∀ H'', Same H' H'' → R y H'') → g x (wipe σ vs) H' fun σ2 H2 => wipe σ2 vs = wipe σ vs ∧ tYes σ2 H2 fun b H3 => if b = true then te σ2 H3 R else R' H3)
    (hd : ∀ H', Same H1 H' → H' D = some (.lst ys) → Qd H') :
    ∃ W : Nat → Nat → Hp → Prop, (∃ m, W 0 m (upd H1 D (.lst []))) ∧ ∀ i m H, W i m H →
      ((Itl K a).stop i H ∧ Qd H) ∨ ((Itl K a).go i H ∧ ∃ Nx : Hp → Prop, (∀ H', Nx H' → ∃ m', m' < m ∧ W (i + 1) m' H') ∧ ∀ x H', (Itl K a).yld i H x H' → g x (wipe σ vs) H' fun σ2 H2 => wipe σ2 vs = wipe σ vs ∧ tYes σ2 H2 fun b H3 =>
        if b = true then te σ2 H3 fun y H4 => ∃ acc, H4 D = some (.lst acc) ∧ acc.length < sizeLine ∧ Nx (upd H4 D (.lst (acc ++ [y]))) else Nx H3) := by
  refine lc_list (K := K) (a := a) (xs := xs) (fun i H' => i ≤ xs.length ∧ Same H1 H' ∧ H' D = some (.lst (ys.take i))) ⟨Nat.zero_le _, same_new hD, by rw [List.take_zero]; exact upd_same⟩ (fun i H' _ ⟨_, sm, _⟩ => sm.seq hx) ?_ ?_
  · rintro i x H' hi ⟨_, sm, hDl⟩
    have hil := (List.getElem?_eq_some_iff.mp hi).1
    obtain ⟨y, hyi⟩ : ∃ y, ys[i]? = some y := ⟨ys[i]'(by omega), List.getElem?_eq_getElem (by omega)⟩
    refine he i x y H' _ _ hi hyi sm fun H'' s2 => ?_
    have hD2 := s2 _ _ hDl
    refine ⟨_, hD2, by rw [List.length_take]; omega, by omega, ?_, ?_⟩
    · intro z o hz'
      rw [upd_ne (ne_of_none hz' hD)]
      exact s2 _ _ (sm _ _ hz')
    · rw [upd_same, List.take_add_one, hyi]; rfl
  · rintro H' ⟨_, sm, hDl⟩
    refine hd H' sm ?_
    rw [← hb, List.take_length] at hDl
    exact hDl
/-- d.get(topic, []): the rows' list -/
theorem get_rows {K : PySem.W.Frag} {H : Hp} {bt b z : Addr} {rs : List Rc} {kvs : TKV} {k : List Key} (h : BT K H bt rs kvs) (hb : KeyAt H b k) (hz : H z = some (.lst [])) : ∃ o l ps, DGet H bt (.ref b) o ∧ o.getD (.ref z) = .ref l ∧ H l = some (.lst (ps.map V.ref)) ∧ Paired (RowAt K H) ps (rowsF rs k) := by
  refine ⟨valV kvs k, ?_⟩
  have g : DGet H bt (.ref b) (valV kvs k) := .inr ⟨kvs, k, b, h.d, rfl, hb, rfl⟩
  by_cases c : rowsF rs k = []
  · refine ⟨z, [], g, by rw [h.no k c]; rfl, hz, by rw [c]; exact .nil⟩
  · obtain ⟨l, ps, e, a1, a2⟩ := h.yes k c
    exact ⟨l, ps, g, by rw [e]; rfl, a1, a2⟩
def spHidden (K : PySem.W.Frag) (C : Addr) : Sp := fun vs H Q _ => ∃ (p tt : Addr) (rs : List Rc) (k : List Key) (o num : Int), vs = [.ref p, .ref tt, .int o, .int num] ∧ RO K C H p rs ∧ KeyAt H tt k ∧ TForm k ∧ rs.length ≤ 100 ∧ ∀ H', Same H H' → Q (.bl (hidF rs k o num)) H'
def ShownV (K : PySem.W.Frag) (H : Hp) (v : V) : Option Rw → Prop
  | none => v = .non
  | some x => ∃ p, v = .ref p ∧ RowAt K H p x
def spLastShown (K : PySem.W.Frag) (C : Addr) : Sp := fun vs H Q _ => ∃ (p tt : Addr) (rs : List Rc) (k : List Key) (num : Int), vs = [.ref p, .ref tt, .int num] ∧ RO K C H p rs ∧ KeyAt H tt k ∧ TForm k ∧ rs.length ≤ 100 ∧ ∀ v H', Same H H' → ShownV K H' v (lastShown rs k num) → Q v H'
theorem rows_nat {K : PySem.W.Frag} {H : Hp} {g : Rw → Bool} : ∀ {ps : List Addr} {xs : List Rw}, Paired (RowAt K H) ps xs → ((xs.map fun x => V.bl (g x)).length = (ps.map V.ref).length)
  | _, _, .nil => rfl
  | _, _, .cons _ t => by simp only [List.map_cons, List.length_cons]; exact congrArg _ (rows_nat t)
section
variable {P : Program} {wd : World} {K : PySem.W.Frag} {mg : Str → Option Value} {base : Heap} {f fH C aHT : Addr} {fd fdH : FuncData}
theorem scHidden : FnScope ["self", "topic", "order", "number", "gone", "_"] ["self", "topic", "order", "number"] (defScope (cR 6)) := ⟨rfl, rfl, rfl, by decide +kernel, rfl, by decide +kernel, by decide +kernel⟩
theorem ok_hidden (F : Fun K "_is_hidden" "Rows._is_hidden" (cR 6) f fd) (T : CT K mg C) (B : BN mg) (hHT : mg "HOST_TOPICS" = some (.ref aHT)) (tHT : ∀ H, SqT K H aHT [.str "host", .str "told"]) : FnOk P wd K mg base CX0 1 f fd ["self", "topic", "order", "number"] (spHidden K C) := by
  refine F.ok scHidden (fun vs H Q E h => ?_) (fun cdv A outer s H vs Q E hr h => ?_)
  · obtain ⟨p, tt, rs, k, o, num, rfl, _⟩ := h
    rfl
  · obtain ⟨p, tt, rs, k, o, num, rfl, hro, hk, ⟨kw, kn, kr, ek⟩, hn, q⟩ := h
    refine ⟨_, (pss_cons (ps_if (pt_cmpR op_in_seq (pe_ix ix_tup (pv 1) pe_int (fun _ _ => rfl)) (pe_glob (v := .ref aHT) (by rfl) hHT rfl) (by rfl))
      (pss_one (ps_ret pe_bl)) pss_nil)
      (pss_one (ps_ret (pe_callB (cr_any rfl) (by rfl) B.any (by decide +kernel) (pa_cons (pe_lc (own := [("gone", 4), ("_", 5)]) (g := gTup K 2 (gCons (gName 4) (gCons (gName 5) gNil))) (tt := tYes) (te := tChain (rI0 fun i j => .bl (decide (i < j))) (rI0 fun i j => .bl (decide (i < j))) (tVar 2) (tVar 4) (tVar 3)) (by rfl) scHidden.nd (pi_list (pe_dget2 (hu_of hr) (pe_fld (pv 0) rfl) (pe_tup (pa_cons pe_str (pa_cons (pe_ix ix_tup (pv 1) pe_int (fun _ _ => rfl)) pa_nil))) (pe_lst pa_nil) ⟨rfl, rfl, rfl, rfl⟩)) (blkOk_by (own := [("gone", 4), ("_", 5)]) (N := ["self", "topic", "order", "number", "gone", "_"]) (sc := defScope (cR 6)) (by decide +kernel)) (fun _ _ _ _ _ => pg_tup (by rfl) (pgs_cons (pg_name (i := 4) scHidden.nd rfl (Or.inl rfl)) (pgs_cons (pg_name (i := 5) scHidden.nd rfl (Or.inl rfl)) L2.pgs_nil))) (fun _ _ _ _ _ => pts_nil) (fun _ _ _ _ _ => by exact (pe_chain op_lt op_lt (pv 2) (pv 4) (pv 3)))) pa_nil))))), ?_⟩
    have hww : word k = kw := by rw [ek]; rfl
    have hss : spaceK k = kn := by rw [ek]; rfl
    have hk' : H tt = some (.tup (V.str kw :: V.int kn :: kr.map kV)) := by
      have z : H tt = some (.tup (k.map kV)) := hk
      rw [ek] at z; exact z
    refine ⟨_, rfl, tt, _, _, _, rfl, rfl, SqT.of hk', atI_nat (j := 0) rfl, aHT, _, rfl, .inr (tHT _), rfl, (flat_strs (ns := ["host", "told"])), _, rfl, ?_⟩
    rw [show ([V.str "host", V.str "told"] : List V) = (["host", "told"] : List Str).map V.str from rfl, inV_str]
    cases ch : strIn kw ["host", "told"] with
    | true =>
      have z := q H (Same.refl H)
      unfold hidF at z
      rw [hww, ch, if_pos rfl] at z
      exact iteT z
    | false =>
      refine iteF ?_
      obtain ⟨dx, ol, bt, bg, sn, kvs, hp, hbt⟩ := hro
      refine ⟨_, rfl, p, C, _, _, _, rfl, hp, T.cl, T.k_bt, rf_bt, bt, rfl, .inr ⟨kvs, hbt.d⟩, _, rfl, tt, _, _, _, rfl, rfl, SqT.of hk', atI_nat (j := 1) rfl, by show 2 ≤ sizeLine; decide, fun gt hgt => ⟨by show 0 ≤ sizeLine; decide, fun z hz => ?_⟩⟩
      have s1 := same_new (o := .tup [.str "gone", .int kn]) hgt
      have s2 := same_new (o := .lst []) hz
      have hg2 : (upd (upd H gt (.tup [.str "gone", .int kn])) z (.lst [])) gt = some (.tup [.str "gone", .int kn]) := s2 _ _ upd_same
      have hz2 : (upd (upd H gt (.tup [.str "gone", .int kn])) z (.lst [])) z = some (.lst []) := upd_same
      generalize upd (upd H gt (.tup [.str "gone", .int kn])) z (.lst []) = H2 at s2 hg2 hz2
      have s12 := s1.trans s2
      obtain ⟨ov, l, ps, g1, g2, g3, g4⟩ := get_rows (k := goneK kn) (hbt.same s12) hg2 hz2
      have rl := rowsF_len (rs := rs) (k := goneK kn)
      have pl := g4.length
      refine ⟨ov, g1, l, g2, ⟨_, SqL.of g3⟩, fun D hD => ?_⟩
      refine lc_mapL ((rowsF rs (goneK kn)).map fun x => V.bl (decide (o < x.1) && decide (x.1 < num))) (rows_nat g4) hD (SqL.of g3) (by rw [List.length_map]; exact Nat.le_of_lt (small1000 (by omega))) (fun i x y H' R R' hx hy sm r => ?_) fun H3 s3 hDl => ?_
      · obtain ⟨t, hti, rfl⟩ := map_get hx
        obtain ⟨w, hwi, v, w1, w2⟩ := paired_at g4 hti
        rw [List.getElem?_map, hwi] at hy
        cases hy
        refine ⟨t, _, rfl, SqT.of (sm _ _ w1), rfl, _, _, rfl, _, _, rfl, rfl, rfl, yesIte ?_⟩
        refine ⟨_, rfl, _, rfl, _, _, rfl, rfl, _, rfl, ?_⟩
        dsimp only at r
        cases c1 : decide (o < w.1) with
        | false =>
          rw [c1] at r
          exact iteF (r H' (Same.refl H'))
        | true =>
          rw [c1] at r
          exact iteT ⟨_, rfl, _, _, rfl, rfl, r H' (Same.refl H')⟩
      · refine nil_ ⟨D, ((rowsF rs (goneK kn)).map fun x => decide (o < x.1) && decide (x.1 < num)), rfl, SqL.of (by rw [hDl, List.map_map]; rfl), ?_⟩
        have e : hidF rs k o num = ((rowsF rs (goneK kn)).map fun x => decide (o < x.1) && decide (x.1 < num)).any id := by
          unfold hidF
          rw [hww, ch, if_neg (by decide), hss, List.any_map]; rfl
        rw [← e]
        exact q H3 (s12.trans s3)
end
end Sg

set_option Elab.async false
set_option linter.all false
set_option maxRecDepth 100000
set_option maxHeartbeats 4000000
namespace Sg
open PySem PySem.Spec PyProof.Rows L2
/-! ### the other methods of the rows -/
def shownB (rs : List Rc) (k : List Key) : Bool := match lastShown rs k (presentO rs) with
  | none => false
  | some x => !noneQ x.2
def snapK (n m : Int) : List Key := [.inr "snap", .inl n, .inl m]
def SnapEx (rs : List Rc) (n m : Int) : Prop := shownB rs (snapK n m) = true
def begO (rs : List Rc) (n : Int) : Option Int := (rs.find? fun r => memberR r n).map (·.o)
structure SnD (H : Hp) (sks : List (Key × V)) (rs : List Rc) : Prop where
  yes : ∀ n : Int, begO rs n ≠ none → ∃ (l : Addr) (zs : List Int), valV sks (.inl n) = some (.ref l) ∧ H l = some (.lst (zs.map V.int)) ∧ zs.length ≤ 400 ∧ (∀ m, m ∈ zs ↔ SnapEx rs n m) ∧ zs.Nodup
  no : ∀ n : Int, begO rs n = none → valV sks (.inl n) = none
def RA (K : PySem.W.Frag) (C : Addr) (H : Hp) (p : Addr) (rs : List Rc) : Prop := ∃ dx ol ts bt bg sn kvs bks sks, H p = some (.ins C dx (rf ol (presentO rs) bt bg sn)) ∧ BT K H bt rs kvs ∧ H ol = some (.lst (ts.map V.ref)) ∧ Paired (RecAt K H) ts rs ∧ H bg = some (.dK bks) ∧ (∀ n : Int, valV bks (.inl n) = (begO rs n).map V.int) ∧ H sn = some (.dK sks) ∧ SnD H sks rs
theorem RA.ro {K : PySem.W.Frag} {C : Addr} {H : Hp} {p : Addr} {rs : List Rc} (h : RA K C H p rs) : RO K C H p rs := by
  obtain ⟨dx, ol, ts, bt, bg, sn, kvs, bks, sks, a, b, _⟩ := h
  exact ⟨dx, ol, bt, bg, sn, kvs, a, b⟩
theorem RA.same {K : PySem.W.Frag} {C : Addr} {H H' : Hp} {p : Addr} {rs : List Rc} (h : RA K C H p rs) (s : Same H H') : RA K C H' p rs := by
  obtain ⟨dx, ol, ts, bt, bg, sn, kvs, bks, sks, a, b, c, d, e, f, g, i⟩ := h
  refine ⟨dx, ol, ts, bt, bg, sn, kvs, bks, sks, s _ _ a, b.same s, s _ _ c, Paired.imp2 (fun _ _ z => z.same s) d, s _ _ e, f, s _ _ g, fun n hn => ?_, i.no⟩
  obtain ⟨l, zs, a1, a2, a3⟩ := i.yes n hn
  exact ⟨l, zs, a1, s _ _ a2, a3⟩
theorem rowsE_of {o : Int} {k : List Key} {es : List Ef} {x : Rw} (h : x ∈ rowsE o k es) : ∃ e ∈ es, e.1 = k := by
  obtain ⟨e, he, z⟩ := List.mem_filterMap.mp h
  split at z
  · exact ⟨e, he, by assumption⟩
  · cases z
theorem rowsF_of {rs : List Rc} {k : List Key} {x : Rw} (h : x ∈ rowsF rs k) : ∃ r ∈ rs, x.1 = r.o ∧ ∃ e ∈ effR r, e.1 = k := by
  obtain ⟨l, hl, hx⟩ := List.mem_flatten.mp h
  obtain ⟨r, hr, rfl⟩ := List.mem_map.mp hl
  exact ⟨r, hr, rowsE_o x hx, rowsE_of hx⟩
theorem rowsF_ex {rs : List Rc} {k : List Key} : rowsF rs k ≠ [] ↔ ∃ r ∈ rs, ∃ e ∈ effR r, e.1 = k := by
  constructor
  · intro h
    obtain ⟨x, hx⟩ := List.exists_mem_of_ne_nil _ h
    obtain ⟨r, hr, _, e⟩ := rowsF_of hx
    exact ⟨r, hr, e⟩
  · rintro ⟨r, hr, e, he, hk⟩ h
    have : (r.o, e.2) ∈ rowsF rs k := List.mem_flatten.mpr ⟨_, List.mem_map.mpr ⟨r, hr, rfl⟩, List.mem_filterMap.mpr ⟨e, he, if_pos hk⟩⟩
    rw [h] at this; cases this
theorem member_of {r : Rc} {e : Ef} {w : Str} {n : Int} {s : List Key} (he : e ∈ effR r) (hk : e.1 = .inr w :: .inl n :: s) (h1 : w ≠ "host") (h2 : w ≠ "told") : memberR r n = true := by
  rcases List.mem_cons.mp he with rfl | he
  · have : (Sum.inr "host" : Key) = .inr w := by injection hk
    exact absurd (Sum.inr.inj this).symm h1
  · unfold memberR
    refine List.any_eq_true.mpr ⟨e, he, ?_⟩
    rw [hk]
    show (decide (n = n) && decide (w ≠ "told")) = true
    rw [decide_eq_true rfl, decide_eq_true h2]; rfl
theorem begO_none {rs : List Rc} {n : Int} : begO rs n = none ↔ ∀ r ∈ rs, memberR r n = false := by
  unfold begO
  rw [Option.map_eq_none_iff, List.find?_eq_none]
  exact ⟨fun h r hr => by have := h r hr; simpa using this, fun h r hr => by rw [h r hr]; simp⟩
theorem snap_none {rs : List Rc} {n m : Int} (h : begO rs n = none) : ¬ SnapEx rs n m := by
  intro z
  unfold SnapEx shownB at z
  have e : rowsF rs (snapK n m) = [] := by
    rcases Classical.em (rowsF rs (snapK n m) = []) with e | e
    · exact e
    · obtain ⟨r, hr, ef, he, hk⟩ := rowsF_ex.mp e
      have := begO_none.mp h r hr
      rw [member_of he hk (by decide) (by decide)] at this; cases this
  have e2 : lastShown rs (snapK n m) (presentO rs) = none := by
    unfold lastShown
    rw [e]; rfl
  rw [e2] at z; cases z
def spTopics (K : PySem.W.Frag) (C : Addr) : Sp := fun vs H Q _ => ∃ (p : Addr) (rs : List Rc), vs = [.ref p] ∧ RO K C H p rs ∧
  ∀ l bs ks H', Same H H' → H l = Option.none → H' l = some (.lst (bs.map V.ref)) → Paired (KeyAt H') bs ks → ks.Nodup → (∀ k, k ∈ ks ↔ rowsF rs k ≠ []) → ks.length ≤ 3 * rs.length → Q (.ref l) H'
def spAllOf (K : PySem.W.Frag) (C : Addr) : Sp := fun vs H Q _ => ∃ (p tt : Addr) (rs : List Rc) (k : List Key), vs = [.ref p, .ref tt] ∧ RO K C H p rs ∧ KeyAt H tt k ∧
  ∀ l ps H', Same H H' → H' l = some (.lst (ps.map V.ref)) → Paired (RowAt K H') ps (rowsF rs k) → Q (.ref l) H'
def spSnaps (K : PySem.W.Frag) (C : Addr) : Sp := fun vs H Q _ => ∃ (p : Addr) (rs : List Rc) (n : Int), vs = [.ref p, .int n] ∧ RA K C H p rs ∧
  ∀ (l : Addr) (zs : List Int) (H' : Hp), Same H H' → H' l = some (.lst (zs.map V.int)) → (∀ m, m ∈ zs ↔ SnapEx rs n m) → zs.length ≤ 400 → zs.Pairwise (· ≤ ·) → zs.Nodup → Q (.ref l) H'
def spBegins (K : PySem.W.Frag) (C : Addr) : Sp := fun vs H Q _ => ∃ (p : Addr) (rs : List Rc) (n o : Int), vs = [.ref p, .int n] ∧ RA K C H p rs ∧ begO rs n = some o ∧ Q (.int o) H
def spExists (K : PySem.W.Frag) (C : Addr) : Sp := fun vs H Q _ => ∃ (p tt : Addr) (rs : List Rc) (k : List Key), vs = [.ref p, .ref tt] ∧ RO K C H p rs ∧ KeyAt H tt k ∧ TForm k ∧ rs.length ≤ 100 ∧ ∀ H', Same H H' → Q (.bl (shownB rs k)) H'
theorem keys_same {H H' : Hp} (s : Same H H') {bs : List Addr} {ks : Tops} (h : Paired (KeyAt H) bs ks) : Paired (KeyAt H') bs ks := Paired.imp2 (fun _ _ z => s _ _ z) h
theorem isKeys_paired {H : Hp} : ∀ {kvs : TKV} {bs : List Addr}, IsKeys H kvs bs → Paired (KeyAt H) bs (kvs.map (·.1))
  | _, _, .nil => .nil
  | _, _, .cons a t => .cons a (isKeys_paired t)
theorem mem_val {kvs : TKV} {k : List Key} : k ∈ kvs.map (·.1) ↔ valV kvs k ≠ none := by
  have z := valV_any k kvs
  constructor
  · intro h e
    obtain ⟨p, hp, ep⟩ := List.mem_map.mp h
    rw [e] at z
    have : (kvs.any fun kv => decide (kv.1 = k)) = true := List.any_eq_true.mpr ⟨p, hp, decide_eq_true ep⟩
    rw [this] at z; cases z
  · intro h
    have : (valV kvs k).isSome = true := Option.isSome_iff_ne_none.mpr h
    rw [← z] at this
    obtain ⟨p, hp, ep⟩ := List.any_eq_true.mp this
    exact List.mem_map.mpr ⟨p, hp, of_decide_eq_true ep⟩
theorem BT.mem {K : PySem.W.Frag} {H : Hp} {bt : Addr} {rs : List Rc} {kvs : TKV} (h : BT K H bt rs kvs) {k : List Key} : k ∈ kvs.map (·.1) ↔ rowsF rs k ≠ [] := by
  rw [mem_val]
  constructor
  · exact fun z e => z (h.no k e)
  · intro z e
    obtain ⟨l, ps, a, _⟩ := h.yes k z
    rw [a] at e; cases e
section
variable {P : Program} {wd : World} {K : PySem.W.Frag} {mg : Str → Option Value} {base : Heap} {f fH fL C aHT : Addr} {fd fdH fdL : FuncData}
theorem scLastShown : FnScope ["self", "topic", "number", "counting", "row"] ["self", "topic", "number"] (defScope (cR 3)) := ⟨rfl, rfl, rfl, by decide +kernel, rfl, by decide +kernel, by decide +kernel⟩
theorem ok_lastShown (F : Fun K "last_shown" "Rows.last_shown" (cR 3) f fd) (T : CT K mg C) (MH : Mth P wd K mg base CX0 C "_is_hidden" 1 ["self", "topic", "order", "number"] (spHidden K C) fH fdH) : FnOk P wd K mg base CX0 2 f fd ["self", "topic", "number"] (spLastShown K C) := by
  refine F.ok scLastShown (fun vs H Q E h => ?_) (fun cdv A outer s H vs Q E hr h => ?_)
  · obtain ⟨p, tt, rs, k, num, rfl, _⟩ := h
    rfl
  · obtain ⟨p, tt, rs, k, num, rfl, hro, hk, hf, hn, q⟩ := h
    refine ⟨_, (pss_cons (ps_setLc (i := 3) (own := [("row", 4)]) (g := gName 4) (tt := (tTest (tOp (rI0 fun i j => .bl (decide (i < j))) (tOp (rIxT K) (tVar 4) (tC (.int 0))) (tVar 2)))) (te := tVar 4) (by rfl) scLastShown.nd rfl rfl (sw_true rfl rfl rfl (by decide +kernel)) (pi_list (pe_dget2 (hu_of hr) (pe_fld (pv 0) rfl) (pv 1) (pe_lst pa_nil) ⟨rfl, rfl, rfl, rfl⟩)) (blkOk_by (own := [("row", 4)]) (N := ["self", "topic", "number", "counting", "row"]) (sc := defScope (cR 3)) (by decide +kernel)) (fun _ _ _ _ _ => pg_name (i := 4) scLastShown.nd rfl (Or.inl rfl)) (fun _ _ _ _ _ => pts_one (pt_cmpR op_lt (pe_ix ix_tup (pv 4) pe_int (fun _ _ => rfl)) (pv 2) (nomark _))) (fun _ _ _ _ _ => by exact (pv 4)))
      (pss_cons (ps_if (PW.pt (pw_or (pt_not (pt_truth (pv 3) (by intro _; rfl))) (pw_or1 (pt_val (pe_meth (pv 0) T.cl MH.me MH.ok hr MH.bd .nil pass0 (pa_cons (pv 1) (pa_cons (pe_ix ix_tup (pe_ix ix_list (pv 3) (pe_un un_neg pe_int) (fun _ _ => rfl)) pe_int (fun _ _ => rfl)) (pa_cons (pv 2) pa_nil))))))))
      (pss_one (ps_ret pe_non)) pss_nil)
      (pss_one (ps_ret (pe_ix ix_list (pv 3) (pe_un un_neg pe_int) (fun _ _ => rfl)))))), ?_⟩
    obtain ⟨dx, ol, bt, bg, sn, kvs, hp, hbt⟩ := id hro
    refine ⟨_, rfl, p, C, _, _, _, rfl, hp, T.cl, T.k_bt, rf_bt, bt, rfl, .inr ⟨kvs, hbt.d⟩, _, rfl, by show 0 ≤ sizeLine; decide, fun z hz => ?_⟩
    have s1 := same_new (o := .lst []) hz
    have hz1 : (upd H z (.lst [])) z = some (.lst []) := upd_same
    generalize upd H z (.lst []) = H1 at s1 hz1
    obtain ⟨ov, l, ps, g1, g2, g3, g4⟩ := get_rows (k := k) (hbt.same s1) (s1 _ _ hk) hz1
    have rl := rowsF_len (rs := rs) (k := k)
    have pl := g4.length
    refine ⟨ov, g1, l, g2, ⟨_, SqL.of g3⟩, fun D hD => ?_⟩
    refine lc_filtB ((rowsF rs k).map fun x => decide (x.1 < num)) (by rw [List.length_map, List.length_map, pl]) hD (SqL.of g3) (fun _ => rfl) (by rw [List.length_map]; exact Nat.le_of_lt (small1000 (by omega))) (fun i x b H' Q' hx hb sm kk => ?_) (fun x H' Q' hm kk => ⟨_, rfl, kk⟩) fun H2 s2 hDl => ?_
    · obtain ⟨t, hti, rfl⟩ := map_get hx
      obtain ⟨w, hwi, v, w1, w2⟩ := paired_at g4 hti
      rw [List.getElem?_map, hwi] at hb
      cases hb
      dsimp only at kk
      exact ⟨_, rfl, t, _, _, _, rfl, rfl, SqT.of (sm _ _ w1), atI_nat (j := 0) rfl, _, rfl, _, _, rfl, rfl, _, rfl, kk H' (Same.refl H')⟩
    · obtain ⟨ps', e1, pr⟩ := keepB_paired (p := fun x : Rw => decide (x.1 < num)) g4
      rw [e1] at hDl
      have pr2 := paired_rsame s2 pr
      have s12 := s1.trans s2
      rcases List.eq_nil_or_concat ((rowsF rs k).filter fun x => decide (x.1 < num)) with e | ⟨xs, x, e⟩
      · rw [e] at pr2
        cases pr2
        have el : lastShown rs k num = none := by unfold lastShown; rw [e]; rfl
        refine ⟨_, rfl, false, .inl ⟨[], SqL.of hDl, rfl⟩, ?_⟩
        refine iteT ?_
        exact q .non H2 s12 (by rw [el]; rfl)
      · rw [List.concat_eq_append] at e
        have e2 : ((rowsF rs k).filter fun x => decide (x.1 < num)).getLast? = some x := by rw [e]; exact List.getLast?_concat
        rw [e] at pr2
        obtain ⟨qs, p', eps, hrow⟩ := paired_last pr2
        obtain ⟨v1, a1, a2⟩ := id hrow
        rw [eps, List.map_append] at hDl
        have ls : lastShown rs k num = if hidF rs k x.1 num = true then none else some x := by unfold lastShown; rw [e2]
        refine ⟨_, rfl, true, .inl ⟨_, SqL.of hDl, ?_⟩, ?_⟩
        · cases qs <;> rfl
        refine iteF ⟨_, rfl, p, _, _, rfl, s12 _ _ hp, rf_no (by decide) (by decide) (by decide) (by decide) (by decide), _, rfl, _, rfl, 1, rfl, D, _, _, V.ref p', rfl, rfl, SqL.of hDl, atI_last _ _, p', _, _, _, rfl, rfl, SqT.of a1, atI_nat (j := 0) rfl, _, rfl, p, tt, rs, k, x.1, num, rfl, hro.same s12, s12 _ _ hk, hf, hn, fun H3 s3 => ⟨_, rfl, ?_⟩⟩
        cases hh : hidF rs k x.1 num with
        | true => exact iteT (q .non H3 (s12.trans s3) (by rw [ls, hh, if_pos rfl]; rfl))
        | false => exact iteF ⟨_, rfl, 1, rfl, D, _, _, V.ref p', rfl, rfl, SqL.of (s3 _ _ hDl), atI_last _ _, q _ H3 (s12.trans s3) (by rw [ls, hh, if_neg (by decide)]; exact ⟨p', rfl, hrow.same s3⟩)⟩
theorem scTopics : FnScope ["self"] ["self"] (defScope (cR 1)) := ⟨rfl, rfl, rfl, by decide +kernel, rfl, by decide +kernel, by decide +kernel⟩
theorem ok_topics (F : Fun K "topics" "Rows.topics" (cR 1) f fd) (T : CT K mg C) (B : BN mg) : FnOk P wd K mg base CX0 1 f fd ["self"] (spTopics K C) := by
  refine F.ok scTopics (fun vs H Q E h => ?_) (fun cdv A outer s H vs Q E hr h => ?_)
  · obtain ⟨p, rs, rfl, _⟩ := h
    rfl
  · obtain ⟨p, rs, rfl, hro, q⟩ := h
    refine ⟨_, (pss_one (ps_ret (pe_callTy (call_list_dT rfl) (by rfl) B.list (by decide +kernel) (pa_cons (pe_fld (pv 0) rfl) pa_nil)))), ?_⟩
    obtain ⟨dx, ol, bt, bg, sn, kvs, hp, hbt⟩ := id hro
    refine ⟨_, rfl, p, C, _, _, _, rfl, hp, T.cl, T.k_bt, rf_bt, nil_ ⟨bt, kvs, rfl, hbt.d, fun l bs hl hb => ?_⟩⟩
    refine q l bs (kvs.map (·.1)) _ (same_new hl) hl upd_same (keys_same (same_new hl) (isKeys_paired hb)) hbt.nd (fun k => hbt.mem) (by rw [List.length_map]; exact hbt.ln)
theorem scAllOf : FnScope ["self", "topic"] ["self", "topic"] (defScope (cR 2)) := ⟨rfl, rfl, rfl, by decide +kernel, rfl, by decide +kernel, by decide +kernel⟩
theorem ok_allOf (F : Fun K "all_of" "Rows.all_of" (cR 2) f fd) (T : CT K mg C) (B : BN mg) : FnOk P wd K mg base CX0 1 f fd ["self", "topic"] (spAllOf K C) := by
  refine F.ok scAllOf (fun vs H Q E h => ?_) (fun cdv A outer s H vs Q E hr h => ?_)
  · obtain ⟨p, tt, rs, k, rfl, _⟩ := h
    rfl
  · obtain ⟨p, tt, rs, k, rfl, hro, hk, q⟩ := h
    refine ⟨_, (pss_one (ps_ret (pe_callTy call_list_of (by rfl) B.list (by decide +kernel) (pa_cons (pe_dget2 (hu_of hr) (pe_fld (pv 0) rfl) (pv 1) (pe_lst pa_nil) ⟨rfl, rfl, rfl, rfl⟩) pa_nil)))), ?_⟩
    obtain ⟨dx, ol, bt, bg, sn, kvs, hp, hbt⟩ := id hro
    refine ⟨_, rfl, p, C, _, _, _, rfl, hp, T.cl, T.k_bt, rf_bt, bt, rfl, .inr ⟨kvs, hbt.d⟩, _, rfl, by show 0 ≤ sizeLine; decide, fun z hz => ?_⟩
    have s1 := same_new (o := .lst []) hz
    have hz1 : (upd H z (.lst [])) z = some (.lst []) := upd_same
    generalize upd H z (.lst []) = H1 at s1 hz1
    obtain ⟨ov, l, ps, g1, g2, g3, g4⟩ := get_rows (k := k) (hbt.same s1) (s1 _ _ hk) hz1
    refine ⟨ov, g1, ?_⟩
    rw [g2]
    exact nil_ ⟨l, _, rfl, .inl (SqL.of g3), fun l' hl' => q l' ps _ (s1.trans (same_new hl')) upd_same (paired_rsame (same_new hl') g4)⟩
theorem scSnaps : FnScope ["self", "namespace"] ["self", "namespace"] (defScope (cR 4)) := ⟨rfl, rfl, rfl, by decide +kernel, rfl, by decide +kernel, by decide +kernel⟩
theorem ok_snaps (F : Fun K "snapshots" "Rows.snapshots" (cR 4) f fd) (T : CT K mg C) (B : BN mg) : FnOk P wd K mg base CX0 1 f fd ["self", "namespace"] (spSnaps K C) := by
  refine F.ok scSnaps (fun vs H Q E h => ?_) (fun cdv A outer s H vs Q E hr h => ?_)
  · obtain ⟨p, rs, n, rfl, _⟩ := h
    rfl
  · obtain ⟨p, rs, n, rfl, hra, q⟩ := h
    refine ⟨_, (pss_one (ps_ret (pe_callB cr_sortedI (by rfl) B.sorted (by decide +kernel) (pa_cons (pe_dget2 (hu_of hr) (pe_fld (pv 0) rfl) (pv 1) (pe_lst pa_nil) ⟨rfl, rfl, rfl, rfl⟩) pa_nil)))), ?_⟩
    obtain ⟨dx, ol, ts, bt, bg, sn, kvs, bks, sks, hp, hbt, hol, hrec, hbg, hbv, hsn, hsd⟩ := id hra
    refine ⟨_, rfl, p, C, _, _, _, rfl, hp, T.cl, T.k_sn, rf_sn, sn, rfl, .inl ⟨sks, .inl hsn⟩, _, rfl, by show 0 ≤ sizeLine; decide, fun z hz => ?_⟩
    have s1 := same_new (o := .lst []) hz
    have hz1 : (upd H z (.lst [])) z = some (.lst []) := upd_same
    generalize upd H z (.lst []) = H1 at s1 hz1
    have g1 : DGet H1 sn (.int n) (valV sks (.inl n)) := .inl ⟨sks, .inl n, .inl (s1 _ _ hsn), rfl, rfl⟩
    refine ⟨_, g1, ?_⟩
    by_cases c : begO rs n = none
    · rw [hsd.no n c]
      refine nil_ ⟨z, [], rfl, SqL.of hz1, fun zs' l hpm hsr hl => ?_⟩
      have e := List.Perm.eq_nil hpm
      subst e
      exact q l [] _ (s1.trans (same_new hl)) upd_same (fun m => ⟨(fun h => nomatch h), fun h => absurd h (snap_none c)⟩) (Nat.zero_le _) .nil List.nodup_nil
    · obtain ⟨l0, zs, a1, a2, a3, a4, a5⟩ := hsd.yes n c
      rw [a1]
      refine nil_ ⟨l0, zs, rfl, SqL.of (s1 _ _ a2), fun zs' l hpm hsr hl => ?_⟩
      exact q l zs' _ (s1.trans (same_new hl)) upd_same (fun m => by rw [hpm.mem_iff]; exact a4 m) (by rw [hpm.length_eq]; exact a3) hsr (hpm.nodup_iff.mpr a5)
theorem scBegins : FnScope ["self", "namespace"] ["self", "namespace"] (defScope (cR 5)) := ⟨rfl, rfl, rfl, by decide +kernel, rfl, by decide +kernel, by decide +kernel⟩
theorem ok_begins (F : Fun K "begins" "Rows.begins" (cR 5) f fd) (T : CT K mg C) : FnOk P wd K mg base CX0 1 f fd ["self", "namespace"] (spBegins K C) := by
  refine F.ok scBegins (fun vs H Q E h => ?_) (fun cdv A outer s H vs Q E hr h => ?_)
  · obtain ⟨p, rs, n, o, rfl, _⟩ := h
    rfl
  · obtain ⟨p, rs, n, o, rfl, hra, hb, q⟩ := h
    refine ⟨_, (pss_one (ps_ret (pe_dget (hu_of hr) (pe_fld (pv 0) rfl) (pv 1) (fun _ _ => rfl)))), ?_⟩
    obtain ⟨dx, ol, ts, bt, bg, sn, kvs, bks, sks, hp, hbt, hol, hrec, hbg, hbv, hsn, hsd⟩ := id hra
    have e : valV bks (.inl n) = some (.int o) := by rw [hbv, hb]; rfl
    exact ⟨_, rfl, p, C, _, _, _, rfl, hp, T.cl, T.k_be, rf_bg, _, rfl, bg, _, rfl, .inl ⟨bks, .inl n, .inl hbg, rfl, e.symm⟩, q⟩
theorem scExists : FnScope ["self", "topic", "row"] ["self", "topic"] (defScope (cR 7)) := ⟨rfl, rfl, rfl, by decide +kernel, rfl, by decide +kernel, by decide +kernel⟩
theorem ok_exists (F : Fun K "_snapshot_exists" "Rows._snapshot_exists" (cR 7) f fd) (T : CT K mg C) (ML : Mth P wd K mg base CX0 C "last_shown" 2 ["self", "topic", "number"] (spLastShown K C) fL fdL) : FnOk P wd K mg base CX0 3 f fd ["self", "topic"] (spExists K C) := by
  refine F.ok scExists (fun vs H Q E h => ?_) (fun cdv A outer s H vs Q E hr h => ?_)
  · obtain ⟨p, tt, rs, k, rfl, _⟩ := h
    rfl
  · obtain ⟨p, tt, rs, k, rfl, hro, hk, hf, hn, q⟩ := h
    refine ⟨_, (pss_cons (ps_set (i := 2) scExists.nd rfl (Or.inl rfl) (pe_meth (pv 0) T.cl ML.me ML.ok hr ML.bd .nil pass0 (pa_cons (pv 1) (pa_cons (pe_fld (pv 0) rfl) pa_nil))))
      (pss_one (ps_ret (pe_and (pe_cmpR op_notN (pv 2) pe_non (nomark _)) (pe_one (pe_cmpR op_notN (pe_ix ix_tup (pv 2) pe_int (fun _ _ => rfl)) pe_non (nomark _))))))), ?_⟩
    obtain ⟨dx, ol, bt, bg, sn, kvs, hp, hbt⟩ := id hro
    refine ⟨_, rfl, p, _, _, rfl, hp, rf_no (by decide) (by decide) (by decide) (by decide) (by decide), _, rfl, _, rfl, p, C, _, _, _, rfl, hp, T.cl, T.k_pr, rf_pr, p, tt, rs, k, presentO rs, rfl, hro, hk, hf, hn, fun v H1 s1 hs => ?_⟩
    have e : shownB rs k = match lastShown rs k (presentO rs) with
      | none => false
      | some x => !noneQ x.2 := rfl
    cases hls : lastShown rs k (presentO rs) with
    | none =>
      rw [hls] at e hs
      obtain rfl : v = .non := hs
      have z := q H1 s1
      rw [e] at z
      exact ⟨_, rfl, rfl, _, rfl, iteF z⟩
    | some x =>
      rw [hls] at e hs
      obtain ⟨pr, rfl, v1, a1, a2⟩ := hs
      have z := q H1 s1
      rw [e] at z
      refine ⟨_, rfl, rfl, _, rfl, iteT ⟨_, rfl, pr, _, _, _, rfl, rfl, SqT.of a1, atI_nat (j := 1) rfl, rfl, ?_⟩⟩
      rw [dp_noneQ a2]
      exact z
end
end Sg

set_option Elab.async false
set_option linter.all false
set_option maxRecDepth 100000
set_option maxHeartbeats 4000000
namespace Sg
open PySem PySem.Spec PyProof.Rows L2
/-! ### the table of rows while it grows -/
abbrev RF := List Key → List Rw
structure TB (K : PySem.W.Frag) (H : Hp) (X : List Addr) (bt : Addr) (ρ : RF) (kvs : TKV) (H' : Hp) : Prop where
  d : H' bt = some (.dT kvs)
  nd : (kvs.map (·.1)).Nodup
  at_ : ∀ k, (∃ l ps, valV kvs k = some (.ref l) ∧ H' l = some (.lst (ps.map V.ref)) ∧ Paired (RowAt K H') ps (ρ k)) ∨ (valV kvs k = none ∧ ρ k = [])
  own : ∀ k l, valV kvs k = some (.ref l) → H l = Option.none ∧ l ∉ X
  inj : ∀ k k' l, valV kvs k = some (.ref l) → valV kvs k' = some (.ref l) → k = k'
  t : ∀ k, ∀ x ∈ ρ k, tupO x.2 = true
section
variable {K : PySem.W.Frag} {H H' H'' : Hp} {X : List Addr} {bt : Addr} {ρ : RF} {kvs : TKV}
theorem TB.same (h : TB K H X bt ρ kvs H') (s : Same H' H'') : TB K H X bt ρ kvs H'' :=
  ⟨s _ _ h.d, h.nd, fun k => by
    rcases h.at_ k with ⟨l, ps, a, b, c⟩ | z
    · exact .inl ⟨l, ps, a, s _ _ b, paired_rsame s c⟩
    · exact .inr z, h.own, h.inj, h.t⟩
theorem TB.set {X' : List Addr} (h : TB K H X bt ρ kvs H') (g : ∀ k l, valV kvs k = some (.ref l) → l ∉ X') : TB K H X' bt ρ kvs H' :=
  ⟨h.d, h.nd, h.at_, fun k l e => ⟨(h.own k l e).1, g k l e⟩, h.inj, h.t⟩
theorem TB.lst (h : TB K H X bt ρ kvs H') {k : List Key} {l : Addr} (e : valV kvs k = some (.ref l)) : ∃ ps : List Addr, H' l = some (.lst (ps.map V.ref)) ∧ Paired (RowAt K H') ps (ρ k) := by
  rcases h.at_ k with ⟨l', ps, a, b, c⟩ | ⟨a, _⟩
  · rw [e] at a; cases a; exact ⟨ps, b, c⟩
  · rw [e] at a; cases a
/-- something is written that is no row's list and no tuple -/
theorem TB.upd (h : TB K H X bt ρ kvs H') (tk : TK H' H'') (k1 : H'' bt = some (.dT kvs)) (k2 : ∀ k l u, valV kvs k = some (.ref l) → H' l = some u → H'' l = some u) : TB K H X bt ρ kvs H'' :=
  ⟨k1, h.nd, fun k => by
    rcases h.at_ k with ⟨l, ps, a, b, c⟩ | z
    · exact .inl ⟨l, ps, a, k2 k l _ a b, paired_tk tk (h.t k) c⟩
    · exact .inr z, h.own, h.inj, h.t⟩
theorem tk_dT {a : Addr} {kvs kvs' : TKV} (h : H' a = some (.dT kvs)) : TK H' (upd H' a (.dT kvs')) :=
  ⟨fun b xs e => by rw [upd_ne (ne_of e h (fun z => nomatch z))]; exact e, fun b o xs e => by rw [upd_ne (ne_of e h (fun z => nomatch z))]; exact e⟩
theorem tk_lst {a : Addr} {xs xs' : List V} (h : H' a = some (.lst xs)) : TK H' (upd H' a (.lst xs')) :=
  ⟨fun b xs e => by rw [upd_ne (ne_of e h (fun z => nomatch z))]; exact e, fun b o xs e => by rw [upd_ne (ne_of e h (fun z => nomatch z))]; exact e⟩
theorem TB.setd (h : TB K H X bt ρ kvs H') {z : Addr} {k : List Key} (hz : H' z = Option.none) (hz0 : H z = Option.none) (hzX : z ∉ X) (hk : valV kvs k = none) :
    TB K H X bt ρ (putK kvs k (.ref z)) (L2.upd (L2.upd H' z (.lst [])) bt (.dT (putK kvs k (.ref z)))) ∧ TK H' (L2.upd (L2.upd H' z (.lst [])) bt (.dT (putK kvs k (.ref z)))) := by
  have s1 := same_new (o := .lst []) hz
  have hzb : z ≠ bt := fun e => by rw [e, h.d] at hz; cases hz
  have hbt1 := s1 _ _ h.d
  have tk : TK H' (L2.upd (L2.upd H' z (.lst [])) bt (.dT (putK kvs k (.ref z)))) := (TK.of s1).trans (tk_dT hbt1)
  refine ⟨⟨upd_same, nd_putK _ h.nd hk, fun j => ?_, fun j l e => ?_, fun j j' l e e' => ?_, h.t⟩, tk⟩
  · rw [valV_put]
    by_cases c : j = k
    · rw [if_pos c]
      refine .inl ⟨z, [], rfl, by rw [upd_ne hzb, upd_same]; rfl, ?_⟩
      rcases h.at_ j with ⟨l, ps, a, _⟩ | ⟨_, e⟩
      · rw [c, hk] at a; cases a
      · rw [e]; exact .nil
    · rw [if_neg c]
      rcases h.at_ j with ⟨l, ps, a, b, d⟩ | e
      · refine .inl ⟨l, ps, a, ?_, paired_tk tk (h.t j) d⟩
        rw [upd_ne (ne_of b h.d (fun z => nomatch z))]
        exact s1 _ _ b
      · exact .inr e
  · rw [valV_put] at e
    by_cases c : j = k
    · rw [if_pos c] at e; cases e; exact ⟨hz0, hzX⟩
    · rw [if_neg c] at e; exact h.own j l e
  · rw [valV_put] at e e'
    have nz : ∀ j, valV kvs j ≠ some (.ref z) := fun j e => by
      obtain ⟨ps, a, _⟩ := h.lst e
      rw [a] at hz; cases hz
    by_cases c : j = k <;> by_cases c' : j' = k
    · rw [c, c']
    · rw [if_pos c] at e; rw [if_neg c'] at e'
      cases e; exact absurd e' (nz j')
    · rw [if_neg c] at e; rw [if_pos c'] at e'
      cases e'; exact absurd e (nz j)
    · rw [if_neg c] at e; rw [if_neg c'] at e'
      exact h.inj j j' l e e'
def addR (ρ : RF) (k : List Key) (x : Rw) : RF := fun j => if j = k then ρ j ++ [x] else ρ j
theorem TB.app (h : TB K H X bt ρ kvs H') {k : List Key} {l p : Addr} {ps : List Addr} {o : Int} {v : V} {d : PyData} (hv : valV kvs k = some (.ref l)) (hl : H' l = some (.lst (ps.map V.ref))) (hr : Paired (RowAt K H') ps (ρ k)) (hp : H' p = Option.none) (hd : Dp K H' v d) (ht : tupO d = true) :
    TB K H X bt (addR ρ k (o, d)) kvs (L2.upd (L2.upd H' p (.tup [.int o, v])) l (.lst (ps.map V.ref ++ [.ref p]))) ∧ TK H' (L2.upd (L2.upd H' p (.tup [.int o, v])) l (.lst (ps.map V.ref ++ [.ref p]))) ∧ ∀ b u, H' b = some u → b ≠ l → (L2.upd (L2.upd H' p (.tup [.int o, v])) l (.lst (ps.map V.ref ++ [.ref p]))) b = some u := by
  have s1 := same_new (o := .tup [.int o, v]) hp
  have npl : p ≠ l := fun e => by rw [e, hl] at hp; cases hp
  have tk : TK H' (L2.upd (L2.upd H' p (.tup [.int o, v])) l (.lst (ps.map V.ref ++ [.ref p]))) := (TK.of s1).trans (tk_lst (s1 _ _ hl))
  have keep : ∀ b u, H' b = some u → b ≠ l → (L2.upd (L2.upd H' p (.tup [.int o, v])) l (.lst (ps.map V.ref ++ [.ref p]))) b = some u := fun b u e n => by rw [upd_ne n]; exact s1 _ _ e
  refine ⟨⟨keep _ _ h.d (fun e => by rw [← e, h.d] at hl; cases hl), h.nd, fun j => ?_, h.own, h.inj, fun j x hx => ?_⟩, tk, keep⟩
  · unfold addR
    by_cases c : j = k
    · subst c
      rw [if_pos rfl]
      refine .inl ⟨l, ps ++ [p], hv, by rw [upd_same, List.map_append]; rfl, paired_append (paired_tk tk (h.t j) hr) (.cons ⟨v, ?_, dp_tk tk _ _ ht hd⟩ .nil)⟩
      rw [upd_ne npl, upd_same]
    · rw [if_neg c]
      rcases h.at_ j with ⟨l', ps', a, b, e⟩ | e
      · exact .inl ⟨l', ps', a, keep _ _ b (fun z => c (h.inj j k l (by rw [← z]; exact a) hv)), paired_tk tk (h.t j) e⟩
      · exact .inr e
  · unfold addR at hx
    split at hx
    · rcases List.mem_append.mp hx with hx | hx
      · exact h.t j x hx
      · rw [List.mem_singleton.mp hx]; exact ht
    · exact h.t j x hx
end
/-! ### where a namespace begins -/
def memberE (es : List Ef) (n : Int) : Bool := es.any fun e => decide (spaceK e.1 = n) && !strIn (word e.1) ["host", "told"]
theorem effB_w {o h : Int} {b : Bd} : ∀ e ∈ effB o h b, word e.1 ≠ "host" := by
  have wn : ∀ {w : Str} {r : List Key}, ¬ w = "host" → ¬ word (.inr w :: r) = "host" := fun h => h
  intro e he
  cases b with
  | leave n hb => cases hb <;> simp only [effB, List.mem_cons, List.not_mem_nil, or_false] at he <;> (try rcases he with rfl | rfl) <;> (try subst he) <;> exact wn (by decide)
  | preempt n v w => cases w <;> simp only [effB, List.mem_cons, List.not_mem_nil, or_false] at he <;> (try rcases he with rfl | rfl) <;> (try subst he) <;> exact wn (by decide)
  | _ => simp only [effB, List.mem_cons, List.not_mem_nil, or_false] at he; subst he; exact wn (by decide)
theorem strIn_two {w a b : Str} : strIn w [a, b] = (decide (a = w) || decide (b = w)) := by
  unfold strIn
  rw [List.any_cons, List.any_cons, List.any_nil, Bool.or_false]
theorem memberE_R {r : Rc} {n : Int} : memberE (effR r) n = memberR r n := by
  unfold memberE memberR effR
  rw [List.any_cons]
  have e1 : (decide (spaceK (effH r).1 = n) && !strIn (word (effH r).1) ["host", "told"]) = false := by
    have : strIn (word (effH r).1) ["host", "told"] = true := by
      show strIn "host" ["host", "told"] = true
      decide
    rw [this]; simp
  rw [e1, Bool.false_or]
  have : ∀ es : List Ef, (∀ e ∈ es, word e.1 ≠ "host") → (es.any fun e => decide (spaceK e.1 = n) && !strIn (word e.1) ["host", "told"]) = es.any fun e => decide (spaceK e.1 = n) && decide (word e.1 ≠ "told") := by
    intro es
    induction es with
    | nil => intro _; rfl
    | cons e es ih =>
      intro h
      rw [List.any_cons, List.any_cons, ih fun x hx => h x (List.mem_cons_of_mem _ hx)]
      have hh := h e List.mem_cons_self
      have e2 : decide (("host" : Str) = word e.1) = false := decide_eq_false (fun z => hh z.symm)
      rw [strIn_two, e2, Bool.false_or]
      congr 2
      by_cases c : word e.1 = "told"
      · rw [decide_eq_true c.symm, decide_eq_false (fun z => z c)]; rfl
      · rw [decide_eq_false (fun z => c z.symm), decide_eq_true c]; rfl
  exact this _ effB_w
theorem begO_snoc {rs : List Rc} {r : Rc} {n : Int} : begO (rs ++ [r]) n = (begO rs n).or (if memberR r n = true then some r.o else none) := by
  unfold begO
  rw [List.find?_append]
  cases h : rs.find? (fun r => memberR r n) with
  | some x => rfl
  | none =>
    rw [Option.none_or, List.find?_cons]
    cases c : memberR r n with
    | true => rfl
    | false => rfl
end Sg

set_option Elab.async false
set_option linter.all false
set_option maxRecDepth 100000
set_option maxHeartbeats 4000000
namespace Sg
open PySem PySem.Spec PyProof.Rows L2
/-! ### the rows are made -/
theorem putF_new {f : Str} {v : V} : ∀ {fs : List (Str × V)}, (∀ p ∈ fs, ¬ p.1 = f) → putF f v fs = fs ++ [(f, v)]
  | [], _ => rfl
  | (g, x) :: fs, h => by
    rw [put_past (h (g, x) List.mem_cons_self), putF_new fun p hp => h p (List.mem_cons_of_mem _ hp)]; rfl
theorem tk_ins {H H' : Hp} {p C dx : Addr} {fs : List (Str × V)} (o : Off [p] H H') (h : H p = some (.ins C dx fs)) : TK H H' :=
  ⟨fun a xs e => o _ _ e (by simpa using ne_of e h (by intro z; cases z)), fun a b xs e => o _ _ e (by simpa using ne_of e h (by intro z; cases z))⟩
theorem tk_dK {H : Hp} {a : Addr} {kvs kvs' : List (Key × V)} (h : H a = some (.dK kvs)) : TK H (upd H a (.dK kvs')) :=
  ⟨fun b xs e => by rw [upd_ne (ne_of e h (fun z => nomatch z))]; exact e, fun b o xs e => by rw [upd_ne (ne_of e h (fun z => nomatch z))]; exact e⟩
def f4 (ol : Addr) (pr : Int) (bt bg : Addr) : List (Str × V) := [("ordered", .ref ol), ("present", .int pr), ("_by_topic", .ref bt), ("_begins", .ref bg)]
theorem f4_or {ol bt bg : Addr} {pr : Int} : List.lookup ("ordered" : Str) (f4 ol pr bt bg) = some (V.ref ol) := lk_here
theorem f4_bt {ol bt bg : Addr} {pr : Int} : List.lookup ("_by_topic" : Str) (f4 ol pr bt bg) = some (V.ref bt) := (lk_past (by decide)).trans ((lk_past (by decide)).trans lk_here)
theorem f4_bg {ol bt bg : Addr} {pr : Int} : List.lookup ("_begins" : Str) (f4 ol pr bt bg) = some (V.ref bg) := (lk_past (by decide)).trans ((lk_past (by decide)).trans ((lk_past (by decide)).trans lk_here))
/-- the heap while the table grows -/
structure LS (K : PySem.W.Frag) (H : Hp) (C p dx ol bt bg : Addr) (ts : List Addr) (rs : List Rc) (X : List Addr) (ρ : RF) (kvs : TKV) (β : Int → Option Int) (bks : List (Key × V)) (H' : Hp) : Prop where
  o : Off [p] H H'
  p : H' p = some (.ins C dx (f4 ol (presentO rs) bt bg))
  l : H' ol = some (.lst (ts.map V.ref))
  pr : Paired (RecAt K H') ts rs
  tb : TB K H X bt ρ kvs H'
  g : H' bg = some (.dK bks)
  gv : ∀ n : Int, valV bks (.inl n) = (β n).map V.int
  gk : ∀ q ∈ bks, ∃ n : Int, q.1 = .inl n
theorem LS.same {K : PySem.W.Frag} {H H' H'' : Hp} {C p dx ol bt bg : Addr} {ts : List Addr} {rs : List Rc} {X : List Addr} {ρ : RF} {kvs : TKV} {β : Int → Option Int} {bks : List (Key × V)} (h : LS K H C p dx ol bt bg ts rs X ρ kvs β bks H') (s : Same H' H'') : LS K H C p dx ol bt bg ts rs X ρ kvs β bks H'' :=
  ⟨h.o.trans (Off.of s), s _ _ h.p, s _ _ h.l, Paired.imp2 (fun _ _ z => z.same s) h.pr, h.tb.same s, s _ _ h.g, h.gv, h.gk⟩
/-- one thing is written: the dict of the rows, or a row's list -/
theorem LS.chg {K : PySem.W.Frag} {H H' H'' : Hp} {C p dx ol bt bg : Addr} {ts : List Addr} {rs : List Rc} {X : List Addr} {ρ ρ' : RF} {kvs kvs' : TKV} {β : Int → Option Int} {bks : List (Key × V)} (h : LS K H C p dx ol bt bg ts rs X ρ kvs β bks H') (hg : ∀ r ∈ rs, RGood r) (tb : TB K H X bt ρ' kvs' H'') (tk : TK H' H'') {Y : Addr} (hY : H Y = Option.none)
    (keep : ∀ b u, H' b = some u → b ≠ Y → H'' b = some u) (n1 : p ≠ Y) (n2 : ol ≠ Y) (n3 : bg ≠ Y) : LS K H C p dx ol bt bg ts rs X ρ' kvs' β bks H'' :=
  ⟨fun b u e n => keep _ _ (h.o _ _ e n) (ne_of_none e hY), keep _ _ h.p n1, keep _ _ h.l n2, paired_rtk tk hg h.pr, tb, keep _ _ h.g n3, h.gv, h.gk⟩
theorem LS.beg {K : PySem.W.Frag} {H H' : Hp} {C p dx ol bt bg : Addr} {ts : List Addr} {rs : List Rc} {X : List Addr} {ρ : RF} {kvs : TKV} {β β' : Int → Option Int} {bks : List (Key × V)} (h : LS K H C p dx ol bt bg ts rs X ρ kvs β bks H') (hg : ∀ r ∈ rs, RGood r) (hbg : H bg = Option.none) {n : Int} {o : Int}
    (hb : ∀ j, β' j = if j = n then some o else β j) : LS K H C p dx ol bt bg ts rs X ρ kvs β' (putK bks (.inl n) (.int o)) (upd H' bg (.dK (putK bks (.inl n) (.int o)))) := by
  have tk := tk_dK (kvs' := putK bks (.inl n) (.int o)) h.g
  have keep : ∀ b u, H' b = some u → b ≠ bg → (upd H' bg (.dK (putK bks (.inl n) (.int o)))) b = some u := fun b u e n => by rw [upd_ne n]; exact e
  refine ⟨fun b u e n => keep _ _ (h.o _ _ e n) (ne_of_none e hbg), keep _ _ h.p (ne_of h.p h.g (fun z => nomatch z)), keep _ _ h.l (ne_of h.l h.g (fun z => nomatch z)), paired_rtk tk hg h.pr, h.tb.upd tk (keep _ _ h.tb.d (ne_of h.tb.d h.g (fun z => nomatch z))) (fun k l u e e' => ?_), upd_same, fun j => ?_, fun q hq => ?_⟩
  · obtain ⟨ps, a, _⟩ := h.tb.lst e
    exact keep _ _ e' (ne_of a h.g (fun z => nomatch z))
  · rw [valV_put, h.gv, hb]
    by_cases c : j = n
    · rw [if_pos c, if_pos (by rw [c])]; rfl
    · rw [if_neg c, if_neg (fun z => c (Sum.inl.inj z))]
  · unfold putK at hq
    split at hq
    · obtain ⟨q0, hq0, e⟩ := List.mem_map.mp hq
      obtain ⟨j, hj⟩ := h.gk q0 hq0
      split at e
      · rw [← e]; exact ⟨j, hj⟩
      · rw [← e]; exact ⟨j, hj⟩
    · rcases List.mem_append.mp hq with z | z
      · exact h.gk q z
      · rw [List.mem_singleton.mp z]; exact ⟨n, rfl⟩
theorem rows_not_effs {K : PySem.W.Frag} {H : Hp} {ps es : List Addr} {xs : List Rw} {efs : List Ef} (hx : xs ≠ []) (a : Paired (RowAt K H) ps xs) (b : Paired (EffAt K H) es efs) (e : ps.map V.ref = es.map V.ref) : False := by
  cases a with
  | nil => exact hx rfl
  | @cons p x ps xs a1 a2 =>
    cases b with
    | nil => cases e
    | @cons q y es efs b1 b2 =>
      rw [List.map_cons, List.map_cons] at e
      injection e with e1 e2
      cases e1
      obtain ⟨v, c1, _⟩ := a1
      obtain ⟨t, v', c2, _⟩ := b1
      rw [c1] at c2; cases c2
theorem rowsE_take {o : Int} {es : List Ef} {m : Nat} {e : Ef} (h : es[m]? = some e) {k : List Key} : rowsE o k (es.take (m + 1)) = rowsE o k (es.take m) ++ (if e.1 = k then [(o, e.2)] else []) := by
  rw [List.take_add_one, h]
  show rowsE o k (es.take m ++ [e]) = _
  rw [← rowsE_one]
  unfold rowsE
  rw [List.filterMap_append]
theorem memberE_take {es : List Ef} {m : Nat} {e : Ef} (h : es[m]? = some e) {n : Int} : memberE (es.take (m + 1)) n = (memberE (es.take m) n || (decide (spaceK e.1 = n) && !strIn (word e.1) ["host", "told"])) := by
  unfold memberE
  rw [List.take_add_one, h, List.any_append]
  show _ = (_ || _)
  rw [Option.toList_some, List.any_cons, List.any_nil, Bool.or_false]
def ρAt (rs : List Rc) (r : Rc) (m : Nat) : RF := fun k => rowsF rs k ++ rowsE r.o k ((effR r).take m)
def βAt (rs : List Rc) (r : Rc) (m : Nat) : Int → Option Int := fun n => (begO rs n).or (if memberE ((effR r).take m) n = true then some r.o else none)
theorem ρAt_zero {rs : List Rc} {r : Rc} : ρAt rs r 0 = rowsF rs := by
  funext k
  unfold ρAt
  rw [List.take_zero]
  show _ ++ [] = _
  rw [List.append_nil]
theorem βAt_zero {rs : List Rc} {r : Rc} : βAt rs r 0 = begO rs := by
  funext n
  unfold βAt
  rw [List.take_zero]
  show (begO rs n).or (if memberE [] n = true then some r.o else none) = _
  rw [show memberE [] n = false from rfl, if_neg (by decide), Option.or_none]
theorem ρAt_succ {rs : List Rc} {r : Rc} {m : Nat} {e : Ef} (h : (effR r)[m]? = some e) : addR (ρAt rs r m) e.1 (r.o, e.2) = ρAt rs r (m + 1) := by
  funext k
  unfold addR ρAt
  rw [rowsE_take h, ← List.append_assoc]
  by_cases c : k = e.1
  · rw [if_pos c, if_pos c.symm]
  · rw [if_neg c, if_neg (fun z => c z.symm), List.append_nil]
theorem ρAt_end {rs : List Rc} {r : Rc} {m : Nat} (h : (effR r).length ≤ m) : ρAt rs r m = rowsF (rs ++ [r]) := by
  funext k
  unfold ρAt
  rw [rowsF_snoc, List.take_of_length_le h]
theorem βAt_end {rs : List Rc} {r : Rc} {m : Nat} (h : (effR r).length ≤ m) : βAt rs r m = begO (rs ++ [r]) := by
  funext n
  unfold βAt
  rw [begO_snoc, List.take_of_length_le h, memberE_R]
theorem βAt_no {rs : List Rc} {r : Rc} {m : Nat} {e : Ef} (h : (effR r)[m]? = some e) (hw : strIn (word e.1) ["host", "told"] = true) : βAt rs r (m + 1) = βAt rs r m := by
  funext n
  unfold βAt
  rw [memberE_take h, hw]
  simp
theorem βAt_yes {rs : List Rc} {r : Rc} {m : Nat} {e : Ef} (h : (effR r)[m]? = some e) (hw : strIn (word e.1) ["host", "told"] = false) (n : Int) : βAt rs r (m + 1) n = if n = spaceK e.1 then (βAt rs r m n).or (some r.o) else βAt rs r m n := by
  unfold βAt
  rw [memberE_take h, hw]
  by_cases c : n = spaceK e.1
  · rw [if_pos c, decide_eq_true c.symm]
    cases begO rs n with
    | some x => rfl
    | none =>
      rw [Option.none_or, Option.none_or]
      cases memberE ((effR r).take m) n <;> rfl
  · rw [if_neg c, decide_eq_false (fun z => c z.symm)]
    simp
theorem tk_off2 {H H' : Hp} {p bt C dx : Addr} {fs : List (Str × V)} {kvs : TKV} (o : Off [p, bt] H H') (hp : H p = some (.ins C dx fs)) (hb : H bt = some (.dT kvs)) : TK H H' := by
  refine ⟨fun a xs e => o _ _ e fun m => ?_, fun a b xs e => o _ _ e fun m => ?_⟩ <;>
  · rcases List.mem_cons.mp m with rfl | m
    · rw [hp] at e; cases e
    · rw [List.mem_singleton.mp m, hb] at e; cases e
theorem BT.off {K : PySem.W.Frag} {H H' : Hp} {p bt C dx : Addr} {fs : List (Str × V)} {rs : List Rc} {kvs : TKV} (h : BT K H bt rs kvs) (o : Off [p, bt] H H') (hp : H p = some (.ins C dx fs)) (hb : H bt = some (.dT kvs)) (d : Rd H' bt (.dT kvs)) (hg : ∀ r ∈ rs, RGood r) : BT K H' bt rs kvs := by
  have tk := tk_off2 o hp hb
  refine ⟨d, h.nd, fun k hk => ?_, h.no, h.ln⟩
  obtain ⟨l, ps, a, b, c⟩ := h.yes k hk
  refine ⟨l, ps, a, o _ _ b fun m => ?_, paired_tk tk (fun x hx => ?_) c⟩
  · rcases List.mem_cons.mp m with rfl | m
    · rw [hp] at b; cases b
    · rw [List.mem_singleton.mp m, hb] at b; cases b
  · obtain ⟨l0, hl0, hx⟩ := List.mem_flatten.mp hx
    obtain ⟨r, hr, rfl⟩ := List.mem_map.mp hl0
    exact rowsE_t (effR_t (hg r hr)) x hx
theorem effR_s {r : Rc} : ∀ e ∈ effR r, SForm e.1 := by
  intro e he
  rcases List.mem_cons.mp he with rfl | he
  · exact fun h => absurd h (wne (w := "host") (r := [.inl r.h]) (by decide))
  · exact effB_s e he
def spRInit (K : PySem.W.Frag) (C : Addr) : Sp := fun vs H Q _ => ∃ (p a dx : Addr) (ts : List Addr) (rs : List Rc), vs = [.ref p, .ref a] ∧ H p = some (.ins C dx []) ∧ SqL K H a (ts.map V.ref) ∧ Paired (RecAt K H) ts rs ∧ rs.length ≤ 100 ∧ (∀ r ∈ rs, RGood r) ∧ (∀ x ∈ rs, ∀ y ∈ rs, x.o = y.o → x = y) ∧
  ∀ rs' H', Off [p] H H' → RA K C H' p rs' → rs'.Pairwise (fun x y => x.o < y.o) → (∀ r, r ∈ rs' ↔ r ∈ rs) → rs'.length ≤ 100 → Q .non H'
theorem nodup_len {α : Type} [DecidableEq α] : ∀ {l m : List α}, l.Nodup → (∀ x ∈ l, x ∈ m) → l.length ≤ m.length
  | [], _, _, _ => Nat.zero_le _
  | x :: l, m, nd, h => by
    rw [List.nodup_cons] at nd
    have hx := h x List.mem_cons_self
    have := nodup_len (l := l) (m := m.erase x) nd.2 fun y hy => (List.mem_erase_of_ne (fun e => nd.1 (by rw [← e]; exact hy))).mpr (h y (List.mem_cons_of_mem _ hy))
    rw [List.length_erase_of_mem hx] at this
    have := List.length_pos_of_mem hx
    rw [List.length_cons]; omega
theorem asc_len {rs rs' : List Rc} (asc : rs'.Pairwise (fun x y => x.o < y.o)) (mem : ∀ r, r ∈ rs' ↔ r ∈ rs) : rs'.length ≤ rs.length := by
  have nd : (rs'.map (·.o)).Nodup := by
    unfold List.Nodup
    rw [List.pairwise_map]
    exact asc.imp fun h e => by omega
  have := nodup_len (m := rs.map (·.o)) nd fun x hx => by
    obtain ⟨r, hr, e⟩ := List.mem_map.mp hx
    exact List.mem_map.mpr ⟨r, (mem r).mp hr, e⟩
  rw [List.length_map, List.length_map] at this
  exact this
/-- a dict comprehension over a walk -/
theorem dc_it {J : It} {n : Nat} {G : Hp → Prop} {Y : Nat → Hp → V → Hp → Prop} (w : Walk J n G Y) {g : TG} {tt : TT} {tk tv : TE} {vs : List Nat} {σ : L2.St} {H1 : Hp} {D : Addr} {Qd : Hp → Prop} (Pv : Nat → Hp → Prop) (h0 : Pv 0 (upd H1 D (.dK []))) (hG : ∀ i H, i ≤ n → Pv i H → G H)
    (hs : ∀ i x H H', i < n → Pv i H → Y i H x H' → g x (wipe σ vs) H' fun σ2 H2 => wipe σ2 vs = wipe σ vs ∧ tt σ2 H2 fun b H3 =>
      if b = true then tk σ2 H3 fun y H4 => tv σ2 H4 fun z H5 => ∃ kvs k, y = kV k ∧ H5 D = some (.dK kvs) ∧ kvs.length < sizeLine ∧ Pv (i + 1) (upd H5 D (.dK (putK kvs k z))) else Pv (i + 1) H3) (hd : ∀ H, Pv n H → Qd H) :
    ∃ W : Nat → Nat → Hp → Prop, (∃ m, W 0 m (upd H1 D (.dK []))) ∧ ∀ i m H, W i m H →
      (J.stop i H ∧ Qd H) ∨ (J.go i H ∧ ∃ Nx : Hp → Prop, (∀ H', Nx H' → ∃ m', m' < m ∧ W (i + 1) m' H') ∧ ∀ x H', J.yld i H x H' → g x (wipe σ vs) H' fun σ2 H2 => wipe σ2 vs = wipe σ vs ∧ tt σ2 H2 fun b H3 =>
        if b = true then tk σ2 H3 fun y H4 => tv σ2 H4 fun z H5 => ∃ kvs k, y = kV k ∧ H5 D = some (.dK kvs) ∧ kvs.length < sizeLine ∧ Nx (upd H5 D (.dK (putK kvs k z))) else Nx H3) := by
  refine ⟨fun i m H => m = n - i ∧ i ≤ n ∧ Pv i H, ⟨n, by simp, Nat.zero_le _, h0⟩, ?_⟩
  rintro i m H ⟨rfl, hi, p⟩
  have q := hG i H hi p
  by_cases hlt : i < n
  · refine .inr ⟨w.goes i H hlt q, Pv (i + 1), fun H' p' => ⟨n - (i + 1), by omega, rfl, hlt, p'⟩, fun x H' y => hs i x H H' hlt p (w.yields i H x H' hlt q y)⟩
  · have e : i = n := by omega
    subst e
    exact .inl ⟨w.stops H q, hd H p⟩
section
variable {P : Program} {wd : World} {K : PySem.W.Frag} {mg : Str → Option Value} {base : Heap} {f fO fE fX C aHT : Addr} {fd fdO fdE fdX : FuncData}
theorem scInit : FnScope ["self", "records", "record", "topic", "value", "namespace"] ["self", "records"] (defScope (cR 0)) := ⟨rfl, rfl, rfl, by decide +kernel, rfl, by decide +kernel, by decide +kernel⟩
theorem ok_rinit (F : Fun K "__init__" "Rows.__init__" (cR 0) f fd) (T : CT K mg C) (hHT : mg "HOST_TOPICS" = some (.ref aHT)) (tHT : ∀ H, SqT K H aHT [.str "host", .str "told"]) (GO : Def P wd K mg base CX0 "each_once" 1 ["records"] (spOnce K) fO fdO) (GE : Def P wd K mg base CX0 "effects" 2 ["record"] (spEffects K) fE fdE) (ME : Mth P wd K mg base CX0 C "_snapshot_exists" 3 ["self", "topic"] (spExists K C) fX fdX) : FnOk P wd K mg base CX0 4 f fd ["self", "records"] (spRInit K C) := by
  refine F.ok scInit (fun vs H Q E h => ?_) (fun cdv A outer s H vs Q E hr h => ?_)
  · obtain ⟨p, a, dx, ts, rs, rfl, _⟩ := h
    rfl
  · obtain ⟨p, a, dx, ts0, rs0, rfl, hp, ha, hpr, hn, hg0, hu, q⟩ := h
    have hr1 : Room 1 _ := hr.mono (by decide)
    have hr2 : Room 2 _ := hr.mono (by decide)
    refine ⟨_, (pss_cons (ps_fld (pv 0) (pe_call GO.ok hr1 (by rfl) GO.mg GO.kp GO.bd .nil pass0 (pa_cons (pv 1) pa_nil)) rfl)
      (pss_cons (ps_fld (pv 0) (pe_cut (pe_ifExp (pt_truth (pe_fld (pv 0) rfl) (by intro _; rfl)) (pe_op op_add (pe_ix ix_tup (pe_ix ix_list (pe_fld (pv 0) rfl) (pe_un un_neg pe_int) (fun _ _ => rfl)) pe_int (fun _ _ => rfl)) pe_int) pe_int)) rfl)
      (pss_cons (ps_fld (pv 0) pe_dnewT rfl)
      (pss_cons (ps_fld (pv 0) pe_dnewK rfl)
      (pss_cons (ps_for PassesOwn.never rfl (pi_list (pe_fld (pv 0) rfl)) (pg_name (i := 2) scInit.nd rfl (Or.inl rfl))
      (pss_one (ps_for PassesOwn.never rfl (pi_list (pe_call GE.ok hr2 (by rfl) GE.mg GE.kp GE.bd .nil pass0 (pa_cons (pv 2) pa_nil))) (pg_tup (by rfl) (pgs_cons (pg_name (i := 3) scInit.nd rfl (Or.inl rfl)) (pgs_cons (pg_name (i := 4) scInit.nd rfl (Or.inl rfl)) L2.pgs_nil)))
      (pss_cons (ps_expr (pe_bm PySem.F.plainAttrs_list PySem.F.slot_list_append PySem.F.type_list_append mt_append (pe_cut (pe_dsetdT (hu_of hr) (pe_fld (pv 0) rfl) (pv 3) (pe_lst pa_nil) ⟨rfl, rfl, rfl, rfl⟩)) (pa_cons (pe_tup (pa_cons (pe_ix ix_tup (pv 2) pe_int (fun _ _ => rfl)) (pa_cons (pv 4) pa_nil))) pa_nil)))
      (pss_one (ps_if (pt_cmpR op_notIn_seq (pe_ix ix_tup (pv 3) pe_int (fun _ _ => rfl)) (pe_glob (v := .ref aHT) (by rfl) hHT rfl) (by rfl))
      (pss_one (ps_expr (pe_dsetd (pe_fld (pv 0) rfl) (pe_ix ix_tup (pv 3) pe_int (fun _ _ => rfl)) (pe_ix ix_tup (pv 2) pe_int (fun _ _ => rfl)) ⟨rfl, rfl, rfl, rfl⟩))) pss_nil))))))
      (pss_cons (ps_fld (pv 0) (pe_lock (pe_dc (own := [("namespace", 5)]) (g := gName 5) (tt := tYes) (tk := tVar 5) (tv := tLst tNil) (by rfl) scInit.nd (pi_keys (pe_fld (pv 0) rfl)) (blkOk_by (own := [("namespace", 5)]) (N := ["self", "records", "record", "topic", "value", "namespace"]) (sc := defScope (cR 0)) (by decide +kernel)) (fun _ _ _ _ _ => pg_name (i := 5) scInit.nd rfl (Or.inl rfl)) (fun _ _ _ _ _ => pts_nil) (fun _ _ _ _ _ => by exact (pv 5)) (fun _ _ _ _ _ => by exact (pe_lst pa_nil)))) rfl)
      (pss_one (ps_lock (ps_for PassesOwn.never rfl (pi_keys (pe_fld (pv 0) rfl)) (pg_name (i := 3) scInit.nd rfl (Or.inl rfl))
      (pss_one (ps_if (PW.pt (pw_and (pt_cmpR op_eq (pe_ix ix_tup (pv 3) pe_int (fun _ _ => rfl)) pe_str (nomark _)) (pw_and1 (pt_val (pe_meth (pv 0) T.cl ME.me ME.ok hr ME.bd .nil pass0 (pa_cons (pv 3) pa_nil))))))
      (pss_one (ps_expr (pe_bm PySem.F.plainAttrs_list PySem.F.slot_list_append PySem.F.type_list_append mt_append (pe_dget (hu_of hr) (pe_fld (pv 0) rfl) (pe_ix ix_tup (pv 3) pe_int (fun _ _ => rfl)) (fun _ _ => rfl)) (pa_cons (pe_ix ix_tup (pv 3) pe_int (fun _ _ => rfl)) pa_nil)))) pss_nil))))))))))), ?_⟩
    refine ⟨_, rfl, a, ts0, rs0, rfl, ha, hpr, by omega, hg0, hu, fun ol ts rs H1 s1 hol hol1 pr1 asc mem => ?_⟩
    have hlen := pr1.length
    have rl : rs.length ≤ 100 := Nat.le_trans (asc_len asc mem) hn
    have hg : ∀ r ∈ rs, RGood r := fun r hr' => hg0 r ((mem r).mp hr')
    have nolp : ol ≠ p := fun e => by rw [e, hp] at hol; cases hol
    refine ⟨_, rfl, p, C, dx, [], rfl, s1 _ _ hp, T.cl, T.k_or, by decide, ?_⟩
    have o2 : Off [p] H (upd H1 p (.ins C dx (putF "ordered" (.ref ol) []))) := (Off.of s1).trans (Off.upd (by simp))
    have hp2 : (upd H1 p (.ins C dx (putF "ordered" (.ref ol) []))) p = some (.ins C dx [("ordered", .ref ol)]) := upd_same
    have hol2 : (upd H1 p (.ins C dx (putF "ordered" (.ref ol) []))) ol = some (.lst (ts.map V.ref)) := by rw [upd_ne nolp]; exact hol1
    have pr2 : Paired (RecAt K (upd H1 p (.ins C dx (putF "ordered" (.ref ol) [])))) ts rs := paired_rtk (tk_ins (Off.upd (by simp)) (s1 _ _ hp)) hg pr1
    generalize upd H1 p (.ins C dx (putF "ordered" (.ref ol) [])) = H2 at o2 hp2 hol2 pr2
    refine ⟨fun v H' => v = .int (presentO rs) ∧ H' = H2, ?_, ?_⟩
    · rcases List.eq_nil_or_concat rs with e | ⟨xs, r, e⟩
      · subst e
        cases pr2
        exact ⟨_, rfl, p, C, dx, _, _, rfl, hp2, T.cl, T.k_or, lk_here, false, .inl ⟨[], SqL.of hol2, rfl⟩, iteF ⟨rfl, rfl⟩⟩
      · rw [List.concat_eq_append] at e
        subst e
        obtain ⟨qs, t, et, ht⟩ : ∃ qs t, ts = qs ++ [t] ∧ RecAt K H2 t r := by
          have : ∀ {xs : List Rc} {ts : List Addr}, Paired (RecAt K H2) ts (xs ++ [r]) → ∃ qs t, ts = qs ++ [t] ∧ RecAt K H2 t r := by
            intro xs
            induction xs with
            | nil =>
              intro ts h
              cases h with
              | cons a b => cases b; exact ⟨[], _, rfl, a⟩
            | cons y ys ih =>
              intro ts h
              cases h with
              | cons a b =>
                obtain ⟨qs, p, e, g⟩ := ih b
                exact ⟨_ :: qs, p, by rw [e]; rfl, g⟩
          exact this pr2
        obtain ⟨ys, hts, _⟩ := ht
        have hol2' := hol2
        rw [et, List.map_append] at hol2'
        refine ⟨_, rfl, p, C, dx, _, _, rfl, hp2, T.cl, T.k_or, lk_here, true, .inl ⟨_, SqL.of hol2', ?_⟩, iteT ⟨_, rfl, p, C, dx, _, _, rfl, hp2, T.cl, T.k_or, lk_here, 1, rfl, ol, _, _, V.ref t, rfl, rfl, SqL.of hol2', atI_last _ _, t, _, _, _, rfl, rfl, hts, atI_nat (j := 0) rfl, _, _, rfl, rfl, ?_, rfl⟩⟩
        · cases qs <;> rfl
        · unfold presentO
          rw [List.getLast?_concat]
    rintro v H' ⟨rfl, rfl⟩
    refine ⟨_, rfl, p, C, dx, _, rfl, hp2, T.cl, T.k_pr, by show 1 < 1000; decide, ?_⟩
    have o3 : Off [p] H (upd H' p (.ins C dx (putF "present" (.int (presentO rs)) [("ordered", .ref ol)]))) := o2.trans (Off.upd (by simp))
    have hp3 : (upd H' p (.ins C dx (putF "present" (.int (presentO rs)) [("ordered", .ref ol)]))) p = some (.ins C dx [("ordered", .ref ol), ("present", .int (presentO rs))]) := by
      rw [upd_same, putF_new (by simp only [List.mem_singleton, forall_eq]; decide)]; rfl
    have hol3 : (upd H' p (.ins C dx (putF "present" (.int (presentO rs)) [("ordered", .ref ol)]))) ol = some (.lst (ts.map V.ref)) := by rw [upd_ne nolp]; exact hol2
    have pr3 : Paired (RecAt K (upd H' p (.ins C dx (putF "present" (.int (presentO rs)) [("ordered", .ref ol)])))) ts rs := paired_rtk (tk_ins (Off.upd (by simp)) hp2) hg pr2
    generalize upd H' p (.ins C dx (putF "present" (.int (presentO rs)) [("ordered", .ref ol)])) = H3 at o3 hp3 hol3 pr3
    refine fun bt hbt => ?_
    have s4 := same_new (o := .dT []) hbt
    have hbt0 : H bt = Option.none := by
      cases hh : H bt with
      | none => rfl
      | some u =>
        have : bt ≠ p := fun e => by rw [e, hp3] at hbt; cases hbt
        rw [o3 _ _ hh (by simpa using this)] at hbt; cases hbt
    have nbp : bt ≠ p := fun e => by rw [e, hp3] at hbt; cases hbt
    refine ⟨_, rfl, p, C, dx, _, rfl, s4 _ _ hp3, T.cl, T.k_bt, by show 2 < 1000; decide, ?_⟩
    have hp4 : (upd (upd H3 bt (.dT [])) p (.ins C dx (putF "_by_topic" (.ref bt) [("ordered", .ref ol), ("present", .int (presentO rs))]))) p = some (.ins C dx [("ordered", .ref ol), ("present", .int (presentO rs)), ("_by_topic", .ref bt)]) := by
      rw [upd_same, putF_new (by simp only [List.mem_cons, List.not_mem_nil, or_false, forall_eq_or_imp, forall_eq]; decide)]; rfl
    have o4 : Off [p] H3 (upd (upd H3 bt (.dT [])) p (.ins C dx (putF "_by_topic" (.ref bt) [("ordered", .ref ol), ("present", .int (presentO rs))]))) := (Off.of s4).trans (Off.upd (by simp))
    have hbt4 : (upd (upd H3 bt (.dT [])) p (.ins C dx (putF "_by_topic" (.ref bt) [("ordered", .ref ol), ("present", .int (presentO rs))]))) bt = some (.dT []) := by rw [upd_ne nbp, upd_same]
    generalize upd (upd H3 bt (.dT [])) p (.ins C dx (putF "_by_topic" (.ref bt) [("ordered", .ref ol), ("present", .int (presentO rs))])) = H4 at hp4 o4 hbt4
    have hol4 := o4 _ _ hol3 (by simpa using nolp)
    have pr4 := paired_rtk (tk_ins o4 hp3) hg pr3
    refine fun bg hbg => ?_
    have s5 := same_new (o := .dK []) hbg
    have nbgp : bg ≠ p := fun e => by rw [e, hp4] at hbg; cases hbg
    have hbg0 : H bg = Option.none := by
      cases hh : H bg with
      | none => rfl
      | some u => rw [(o3.trans o4) _ _ hh (by simpa using nbgp)] at hbg; cases hbg
    refine ⟨_, rfl, p, C, dx, _, rfl, s5 _ _ hp4, T.cl, T.k_be, by show 3 < 1000; decide, ?_⟩
    have hp5 : (upd (upd H4 bg (.dK [])) p (.ins C dx (putF "_begins" (.ref bg) [("ordered", .ref ol), ("present", .int (presentO rs)), ("_by_topic", .ref bt)]))) p = some (.ins C dx (f4 ol (presentO rs) bt bg)) := by
      rw [upd_same, putF_new (by simp only [List.mem_cons, List.not_mem_nil, or_false, forall_eq_or_imp, forall_eq]; decide)]; rfl
    have o5 : Off [p] H4 (upd (upd H4 bg (.dK [])) p (.ins C dx (putF "_begins" (.ref bg) [("ordered", .ref ol), ("present", .int (presentO rs)), ("_by_topic", .ref bt)]))) := (Off.of s5).trans (Off.upd (by simp))
    have hbg5 : (upd (upd H4 bg (.dK [])) p (.ins C dx (putF "_begins" (.ref bg) [("ordered", .ref ol), ("present", .int (presentO rs)), ("_by_topic", .ref bt)]))) bg = some (.dK []) := by rw [upd_ne nbgp, upd_same]
    generalize upd (upd H4 bg (.dK [])) p (.ins C dx (putF "_begins" (.ref bg) [("ordered", .ref ol), ("present", .int (presentO rs)), ("_by_topic", .ref bt)])) = H5 at hp5 o5 hbg5
    have L5 : LS K H C p dx ol bt bg ts rs [ol] (fun _ => []) [] (fun _ => none) [] H5 :=
      ⟨o3.trans (o4.trans o5), hp5, o5 _ _ hol4 (by simpa using nolp), paired_rtk (tk_ins o5 hp4) hg pr4, ⟨o5 _ _ hbt4 (by simpa using nbp), List.nodup_nil, fun k => .inr ⟨rfl, rfl⟩, fun _ _ e => (nomatch e), fun _ _ _ e => (nomatch e), fun _ _ hx => (nomatch hx)⟩, hbg5, fun n => rfl, fun _ hq => (nomatch hq)⟩
    clear hp2 hol2 pr2 o2 hp3 hol3 pr3 o3 hp4 o4 hbt4 hol4 pr4 hbg hbt s4 s5 hp5 o5 hbg5
    refine ⟨_, rfl, p, C, dx, _, _, rfl, L5.p, T.cl, T.k_or, f4_or, ol, rfl, ⟨_, SqL.of L5.l⟩, ?_⟩
    refine for_list (K := K) (a := ol) (xs := ts.map V.ref) (fun i σ' H' => ∃ (v2 v3 v4 v5 : Option V) (kvs : TKV) (bks : List (Key × V)), σ' = [some (.ref p), some (.ref a), v2, v3, v4, v5] ∧ LS K H C p dx ol bt bg ts rs [ol] (rowsF (rs.take i)) kvs (begO (rs.take i)) bks H' ∧ (∀ k, valV kvs k ≠ none → rowsF (rs.take i) k ≠ []) ∧ kvs.length ≤ 3 * i ∧ bks.length ≤ 3 * i)
      ⟨_, _, _, _, [], [], rfl, L5, fun _ h => absurd rfl h, Nat.le_refl _, Nat.le_refl _⟩ (fun i σ' H' _ ⟨_, _, _, _, _, _, _, L, _⟩ => SqL.of L.l) ?_ ?_
    · rintro i x σ' H6 hx ⟨v2, v3, v4, v5, kvs0, bks0, rfl, L6, ne6, kl6, bl6⟩
      obtain ⟨t, hti, rfl⟩ := map_get hx
      obtain ⟨r, hri, hrt⟩ := paired_at L6.pr hti
      have hil := (List.getElem?_eq_some_iff.mp hri).1
      have gr := hg r (List.mem_of_getElem? hri)
      have tki : rs.take (i + 1) = rs.take i ++ [r] := by rw [List.take_add_one, hri]; rfl
      refine ⟨_, rfl, t, r, rfl, hrt, fun le es H7 s7 hle pe => ⟨le, rfl, ⟨_, SqL.of hle⟩, ?_⟩⟩
      have L7 := L6.same s7
      have ge := effR_t gr
      have nle : ∀ k l, valV kvs0 k = some (.ref l) → l ∉ [le, ol] := fun k l e hm => by
        rcases List.mem_cons.mp hm with rfl | hm
        · obtain ⟨ps, a, b⟩ := L7.tb.lst e
          rw [hle] at a
          have hne := ne6 k (by rw [e]; simp)
          exact rows_not_effs hne b pe (by
            have := Option.some.inj a
            injection this with z
            exact z.symm)
        · exact (L6.tb.own k l e).2 hm
      have rl3 : rs.length ≤ 100 := rl
      have inner0 : LS K H C p dx ol bt bg ts rs [le, ol] (ρAt (rs.take i) r 0) kvs0 (βAt (rs.take i) r 0) bks0 H7 := by
        rw [ρAt_zero, βAt_zero]
        exact ⟨L7.o, L7.p, L7.l, L7.pr, L7.tb.set nle, L7.g, L7.gv, L7.gk⟩
      refine for_list (K := K) (a := le) (xs := es.map V.ref) (fun m σ' H' => ∃ (v3 v4 : Option V) (kvs : TKV) (bks : List (Key × V)), σ' = [some (.ref p), some (.ref a), some (.ref t), v3, v4, v5] ∧ LS K H C p dx ol bt bg ts rs [le, ol] (ρAt (rs.take i) r m) kvs (βAt (rs.take i) r m) bks H' ∧ H' le = some (.lst (es.map V.ref)) ∧ Paired (EffAt K H') es (effR r) ∧ RecAt K H' t r ∧ (∀ k, valV kvs k ≠ none → ρAt (rs.take i) r m k ≠ []) ∧ kvs.length ≤ 3 * i + m ∧ bks.length ≤ 3 * i + m)
        ⟨_, _, kvs0, bks0, rfl, inner0, hle, pe, hrt.same s7, by rw [ρAt_zero]; exact ne6, by omega, by omega⟩ (fun m σ' H' _ ⟨_, _, _, _, _, _, hl', _⟩ => SqL.of hl') ?_ ?_
      · rintro m x σ' H8 hx ⟨v3, v4, kvs, bks, rfl, L8, hle8, pe8, rt8, ne8, kl8, bl8⟩
        obtain ⟨e, hei, rfl⟩ := map_get hx
        obtain ⟨ef, hefi, he⟩ := paired_at pe8 hei
        have hefm := List.mem_of_getElem? hefi
        have hml := (List.getElem?_eq_some_iff.mp hefi).1
        have el3 := effR_len (r := r)
        obtain ⟨tt, v, a1, a2, a3⟩ := he
        obtain ⟨kw, kn, kr, ek⟩ := effR_form ef hefm
        have hww : word ef.1 = kw := by rw [ek]; rfl
        have hss : spaceK ef.1 = kn := by rw [ek]; rfl
        have nbt_p : p ≠ bt := ne_of L8.p L8.tb.d (fun z => nomatch z)
        have nbt_l : ol ≠ bt := ne_of L8.l L8.tb.d (fun z => nomatch z)
        have nbt_g : bg ≠ bt := ne_of L8.g L8.tb.d (fun z => nomatch z)
        have nbt_le : le ≠ bt := ne_of hle8 L8.tb.d (fun z => nomatch z)
        refine ⟨e, _, rfl, SqT.of a1, rfl, _, _, rfl, _, _, rfl, rfl, ?_⟩
        refine ⟨fun v' H' => ∃ l kvs', v' = .ref l ∧ valV kvs' ef.1 = some (.ref l) ∧ (∀ j, j ≠ ef.1 → valV kvs' j = valV kvs j) ∧ kvs'.length ≤ kvs.length + 1 ∧ LS K H C p dx ol bt bg ts rs [le, ol] (ρAt (rs.take i) r m) kvs' (βAt (rs.take i) r m) bks H' ∧ H' le = some (.lst (es.map V.ref)) ∧ TK H8 H', ?_, ?_⟩
        · refine ⟨_, rfl, p, C, dx, _, _, rfl, L8.p, T.cl, T.k_bt, f4_bt, bt, rfl, .inr ⟨kvs, .inl L8.tb.d⟩, _, rfl, by show 0 ≤ sizeLine; decide, fun z hz => ?_⟩
          have sz := same_new (o := .lst []) hz
          refine ⟨kvs, ef.1, tt, sz _ _ L8.tb.d, rfl, sz _ _ a2, small1000 (by omega), fun v' hv' => ?_, fun hnn => ?_⟩
          · rcases L8.tb.at_ ef.1 with ⟨l, ps, b1, b2, b3⟩ | ⟨b1, _⟩
            · rw [hv'] at b1; cases b1
              exact ⟨l, kvs, rfl, hv', fun _ _ => rfl, by omega, L8.same sz, sz _ _ hle8, TK.of sz⟩
            · rw [hv'] at b1; cases b1
          · have hz0 : H z = Option.none := by
              cases hh : H z with
              | none => rfl
              | some u =>
                have : z ≠ p := fun e => by rw [e, L8.p] at hz; cases hz
                rw [L8.o _ _ hh (by simpa using this)] at hz; cases hz
            have hzX : z ∉ [le, ol] := fun hm => by
              rcases List.mem_cons.mp hm with rfl | hm
              · rw [hle8] at hz; cases hz
              · rw [List.mem_singleton.mp hm, L8.l] at hz; cases hz
            obtain ⟨tb9, tk9⟩ := L8.tb.setd hz hz0 hzX hnn
            have keep : ∀ b u, H8 b = some u → b ≠ bt → (upd (upd H8 z (.lst [])) bt (.dT (putK kvs ef.1 (.ref z)))) b = some u := fun b u e n => by rw [upd_ne n]; exact sz _ _ e
            exact ⟨z, _, rfl, by rw [valV_put, if_pos rfl], fun j hj => by rw [valV_put, if_neg hj], length_putK _ _ _, L8.chg hg tb9 tk9 hbt0 keep nbt_p nbt_l nbt_g, keep _ _ hle8 nbt_le, tk9⟩
        · rintro v' H9 ⟨l, kvs', rfl, hv, hoth, kl9, L9, hle9, tk9⟩
          obtain ⟨ps, hl, prw⟩ := L9.tb.lst hv
          have rt9 := rt8.tk gr tk9
          obtain ⟨ys, hts, _⟩ := id rt9
          have hv9 := dp_tk tk9 _ _ (ge _ hefm) a3
          have a29 := tk9.t _ _ a2
          have pe9 := paired_etk tk9 ge pe8
          have own := L9.tb.own _ _ hv
          have nl_le : le ≠ l := fun e => own.2 (by rw [← e]; simp)
          have nl_ol : ol ≠ l := fun e => own.2 (by rw [← e]; simp)
          have nl_p : p ≠ l := ne_of L9.p hl (fun z => nomatch z)
          have nl_g : bg ≠ l := ne_of L9.g hl (fun z => nomatch z)
          have plen : ps.length ≤ 303 := by
            have z := prw.length
            rw [z]
            unfold ρAt
            have r1 := rowsF_len (rs := rs.take i) (k := ef.1)
            have r2 : (rowsE r.o ef.1 ((effR r).take m)).length ≤ ((effR r).take m).length := List.length_filterMap_le _ _
            rw [List.length_take] at r1 r2
            rw [List.length_append]; omega
          refine ⟨.inl ⟨rfl, _, SqL.of hl⟩, _, rfl, t, _, _, _, rfl, rfl, hts, atI_nat (j := 0) rfl, _, rfl, by show 2 ≤ sizeLine; decide, fun p' hp' => nil_ ⟨l, _, _, rfl, rfl, same_new hp' _ _ hl, by rw [List.length_map]; exact small1000 (by omega), ?_⟩⟩
          obtain ⟨tb10, tk10, keep10⟩ := L9.tb.app hv hl prw hp' hv9 (ge _ hefm)
          rw [ρAt_succ hefi] at tb10
          have L10 := L9.chg hg tb10 tk10 own.1 keep10 nl_p nl_ol nl_g
          have hle10 := keep10 _ _ hle9 nl_le
          have pe10 := paired_etk tk10 ge pe9
          have rt10 := rt9.tk gr tk10
          have a210 := tk10.t _ _ a29
          have ne10 : ∀ k, valV kvs' k ≠ none → ρAt (rs.take i) r (m + 1) k ≠ [] := fun k hk => by
            rw [← ρAt_succ hefi]
            unfold addR
            by_cases c : k = ef.1
            · rw [if_pos c]; simp
            · rw [if_neg c]
              rw [hoth k c] at hk
              exact ne8 k hk
          generalize upd (upd H9 p' (.tup [.int r.o, v])) l (.lst (ps.map V.ref ++ [.ref p'])) = H10 at L10 hle10 pe10 rt10 a210
          have hk' : H10 tt = some (.tup (V.str kw :: V.int kn :: kr.map kV)) := by rw [ek] at a210; exact a210
          obtain ⟨ys2, hts10, _⟩ := id rt10
          refine ⟨_, rfl, tt, _, _, _, rfl, rfl, SqT.of hk', atI_nat (j := 0) rfl, aHT, _, rfl, .inr (tHT _), rfl, (flat_strs (ns := ["host", "told"])), _, rfl, ?_⟩
          rw [show ([V.str "host", V.str "told"] : List V) = (["host", "told"] : List Str).map V.str from rfl, inV_str]
          cases ch : strIn kw ["host", "told"] with
          | true =>
            refine iteF ⟨_, _, kvs', bks, rfl, ?_, hle10, pe10, rt10, ne10, by omega, by omega⟩
            rw [βAt_no hefi (by rw [hww]; exact ch)]
            exact L10
          | false =>
            have by_ := βAt_yes (rs := rs.take i) hefi (by rw [hww]; exact ch)
            rw [hss] at by_
            refine iteT ⟨_, rfl, p, C, dx, _, _, rfl, L10.p, T.cl, T.k_be, f4_bg, bg, rfl, .inl ⟨bks, .inl L10.g⟩, _, rfl, tt, _, _, _, rfl, rfl, SqT.of hk', atI_nat (j := 1) rfl, _, rfl, t, _, _, _, rfl, rfl, hts10, atI_nat (j := 0) rfl, bks, .inl kn, L10.g, rfl, small1000 (by omega), fun v' hv' => ?_, fun hnn => ?_⟩
            · refine ⟨_, _, kvs', bks, rfl, ⟨L10.o, L10.p, L10.l, L10.pr, L10.tb, L10.g, fun n => ?_, L10.gk⟩, hle10, pe10, rt10, ne10, by omega, by omega⟩
              rw [by_, L10.gv]
              by_cases c : n = kn
              · rw [if_pos c]
                have z := L10.gv kn
                rw [hv'] at z
                rw [c]
                cases hb : βAt (rs.take i) r m kn with
                | none => rw [hb] at z; cases z
                | some x => rfl
              · rw [if_neg c]
            · have z := L10.gv kn
              rw [hnn] at z
              have bn : βAt (rs.take i) r m kn = none := by
                cases hb : βAt (rs.take i) r m kn with
                | none => rfl
                | some x => rw [hb] at z; cases z
              have L11 := L10.beg hg hbg0 (n := kn) (o := r.o) (β' := βAt (rs.take i) r (m + 1)) (fun j => by
                rw [by_]
                by_cases c : j = kn
                · rw [if_pos c, if_pos c, c, bn]; rfl
                · rw [if_neg c, if_neg c])
              have tk11 := tk_dK (kvs' := putK bks (.inl kn) (.int r.o)) L10.g
              have := length_putK bks (.inl kn) (.int r.o)
              exact ⟨_, _, kvs', _, rfl, L11, by rw [upd_ne (ne_of hle10 L10.g (fun z => nomatch z))]; exact hle10, paired_etk tk11 ge pe10, rt10.tk gr tk11, ne10, by omega, by omega⟩
      · rintro σ' H8 ⟨v3, v4, kvs, bks, rfl, L8, hle8, pe8, rt8, ne8, kl8, bl8⟩
        have el := pe8.length
        have el3 := effR_len (r := r)
        rw [List.length_map, el] at L8 ne8 kl8 bl8
        rw [ρAt_end (Nat.le_refl _), βAt_end (Nat.le_refl _), ← tki] at L8
        rw [ρAt_end (Nat.le_refl _), ← tki] at ne8
        exact ⟨_, _, _, _, kvs, bks, rfl, ⟨L8.o, L8.p, L8.l, L8.pr, L8.tb.set (fun k l e hm => (L8.tb.own k l e).2 (List.mem_cons_of_mem _ hm)), L8.g, L8.gv, L8.gk⟩, ne8, by omega, by omega⟩
    · rintro σ' H6 ⟨v2, v3, v4, v5, kvs, bks, rfl, L6, ne6, kl6, bl6⟩
      rw [List.length_map, hlen, List.take_length] at L6 ne6
      rw [List.length_map, hlen] at kl6 bl6
      have hBT : BT K H6 bt rs kvs := ⟨.inl L6.tb.d, L6.tb.nd, fun k hk => by
        rcases L6.tb.at_ k with ⟨l, ps, a, b, c⟩ | ⟨_, e⟩
        · exact ⟨l, ps, a, b, c⟩
        · exact absurd e hk, fun k hk => by
        cases e : valV kvs k with
        | none => rfl
        | some v => exact absurd hk (ne6 k (by rw [e]; simp)), kl6⟩
      have bmem : ∀ n : Int, (∃ q ∈ bks, q.1 = .inl n) ↔ begO rs n ≠ none := fun n => by
        have z := L6.gv n
        constructor
        · rintro ⟨q, hq, e⟩ hn
          rw [hn] at z
          have : valV bks (.inl n) ≠ none := by
            intro w
            have v := valV_any (Sum.inl n : Key) bks
            rw [w] at v
            have : (bks.any fun kv => decide (kv.1 = Sum.inl n)) = true := List.any_eq_true.mpr ⟨q, hq, decide_eq_true e⟩
            rw [this] at v; cases v
          exact this z
        · intro hn
          cases hb : begO rs n with
          | none => exact absurd hb hn
          | some x =>
            rw [hb] at z
            obtain ⟨q, hq, e⟩ := List.mem_map.mp (valV_in z)
            exact ⟨q, hq, e⟩
      refine ⟨bg, _, L6.g, trivial, fun od => ?_⟩
      have nbgp2 : p ≠ bg := ne_of L6.p L6.g (fun z => nomatch z)
      have hp7 : (upd H6 bg (.frz od (.dK bks))) p = some (.ins C dx (f4 ol (presentO rs) bt bg)) := by rw [upd_ne nbgp2]; exact L6.p
      have hbg7 : (upd H6 bg (.frz od (.dK bks))) bg = some (.frz od (.dK bks)) := upd_same
      have k67 : ∀ b u, H6 b = some u → b ≠ bg → (upd H6 bg (.frz od (.dK bks))) b = some u := fun b u e n => by rw [upd_ne n]; exact e
      have f67 : ∀ b, (upd H6 bg (.frz od (.dK bks))) b = Option.none → H6 b = Option.none := fun b e => by
        have : b ≠ bg := fun z => by rw [z, upd_same] at e; cases e
        rw [upd_ne this] at e; exact e
      generalize upd H6 bg (.frz od (.dK bks)) = H7 at hp7 hbg7 k67 f67
      refine ⟨_, rfl, p, C, dx, _, _, rfl, hp7, T.cl, T.k_be, f4_bg, bg, od, rfl, .inl ⟨bks, hbg7, fun D hD => ?_⟩⟩
      have nDp : D ≠ p := fun e => by rw [e, hp7] at hD; cases hD
      have nDbg : D ≠ bg := fun e => by rw [e, hbg7] at hD; cases hD
      refine dc_it walk_keys (fun i H' => ∃ sks : List (Key × V), Same H7 H' ∧ H' D = some (.dK sks) ∧ sks.length ≤ i ∧ (∀ n : Int, (∃ q ∈ bks.take i, q.1 = .inl n) → ∃ l, valV sks (.inl n) = some (.ref l) ∧ H' l = some (.lst []) ∧ H7 l = Option.none) ∧ (∀ n : Int, ¬ (∃ q ∈ bks.take i, q.1 = .inl n) → valV sks (.inl n) = none) ∧ ∀ (n n' : Int) l, valV sks (.inl n) = some (.ref l) → valV sks (.inl n') = some (.ref l) → n = n')
        ⟨[], same_new hD, upd_same, Nat.le_refl _, (fun n ⟨q, hq, _⟩ => by simp at hq), fun _ _ => rfl, fun _ _ _ e => nomatch e⟩ (fun i H' _ ⟨_, sm, _⟩ => sm _ _ hbg7) ?_ ?_
      · rintro i x H' H'' hi ⟨sks, sm, hD', sl, yes, no, inj⟩ ⟨rfl, k, v, hki, rfl⟩
        obtain ⟨n, rfl⟩ : ∃ n : Int, k = .inl n := L6.gk _ (List.mem_of_getElem? hki)
        have tkb : bks.take (i + 1) = bks.take i ++ [(.inl n, v)] := by rw [List.take_add_one, hki]; rfl
        refine ⟨rfl, yesIte ⟨_, rfl, by show 0 ≤ sizeLine; decide, fun z hz => ⟨sks, .inl n, rfl, same_new hz _ _ hD', small1000 (by omega), ?_⟩⟩⟩
        have sz := same_new (o := .lst []) hz
        have nzD : z ≠ D := fun e => by rw [e, hD'] at hz; cases hz
        have old : ∀ (j : Int) l, valV sks (.inl j) = some (.ref l) → H'' l = some (.lst []) ∧ H7 l = Option.none := fun j l e => by
          by_cases c : ∃ q ∈ bks.take i, q.1 = .inl j
          · obtain ⟨l', a1, a2, a3⟩ := yes j c
            rw [e] at a1; cases a1
            exact ⟨a2, a3⟩
          · rw [no j c] at e; cases e
        refine ⟨_, fun b u e => ?_, upd_same, Nat.le_trans (length_putK _ _ _) (by omega), fun j hj => ?_, fun j hj => ?_, fun j j' l e e' => ?_⟩
        · have : b ≠ D := fun w => by rw [w, hD] at e; cases e
          rw [upd_ne this]; exact sz _ _ (sm _ _ e)
        · rw [valV_put]
          by_cases c : j = n
          · rw [if_pos (by rw [c])]
            exact ⟨z, rfl, by rw [upd_ne nzD, upd_same], sm.free hz⟩
          · rw [if_neg (fun w => c (Sum.inl.inj w))]
            have : ∃ q ∈ bks.take i, q.1 = .inl j := by
              obtain ⟨q, hq, e⟩ := hj
              rw [tkb] at hq
              rcases List.mem_append.mp hq with hq | hq
              · exact ⟨q, hq, e⟩
              · rw [List.mem_singleton.mp hq] at e; exact absurd (Sum.inl.inj e).symm c
            obtain ⟨l, a1, a2, a3⟩ := yes j this
            exact ⟨l, a1, by rw [upd_ne (ne_of a2 hD' (fun z => nomatch z))]; exact sz _ _ a2, a3⟩
        · rw [valV_put]
          by_cases c : j = n
          · exact absurd ⟨(.inl n, v), by rw [tkb]; simp, by rw [c]⟩ hj
          · rw [if_neg (fun w => c (Sum.inl.inj w))]
            exact no j fun ⟨q, hq, e⟩ => hj ⟨q, by rw [tkb]; exact List.mem_append.mpr (.inl hq), e⟩
        · rw [valV_put] at e e'
          by_cases c : j = n <;> by_cases c' : j' = n
          · rw [c, c']
          · rw [if_pos (by rw [c])] at e
            rw [if_neg (fun w => c' (Sum.inl.inj w))] at e'
            cases e
            have := (old j' z e').1
            rw [this] at hz; cases hz
          · rw [if_neg (fun w => c (Sum.inl.inj w))] at e
            rw [if_pos (by rw [c'])] at e'
            cases e'
            have := (old j z e).1
            rw [this] at hz; cases hz
          · rw [if_neg (fun w => c (Sum.inl.inj w))] at e
            rw [if_neg (fun w => c' (Sum.inl.inj w))] at e'
            exact inj j j' l e e'
      · rintro H' ⟨sks, sm, hD', sl, yes, no, inj⟩
        rw [List.take_length] at yes no
        have hp' := sm _ _ hp7
        refine ⟨sm _ _ hbg7, _, rfl, p, C, dx, _, rfl, by rw [upd_ne nbgp2]; exact hp', T.cl, T.k_sn, by show 4 < 1000; decide, ?_⟩
        have hp8 : (upd (upd H' bg (.dK bks)) p (.ins C dx (putF "_snapshots" (.ref D) (f4 ol (presentO rs) bt bg)))) p = some (.ins C dx (rf ol (presentO rs) bt bg D)) := by
          rw [upd_same, putF_new (by unfold f4; simp only [List.mem_cons, List.not_mem_nil, or_false, forall_eq_or_imp, forall_eq]; decide)]; rfl
        have o8 : Off [p] H6 (upd (upd H' bg (.dK bks)) p (.ins C dx (putF "_snapshots" (.ref D) (f4 ol (presentO rs) bt bg)))) := fun b u e n => by
          rw [upd_ne (by simpa using n)]
          by_cases c : b = bg
          · rw [c, upd_same]; rw [c, L6.g] at e; exact e
          · rw [upd_ne c]; exact sm _ _ (k67 _ _ e c)
        have hD8 : (upd (upd H' bg (.dK bks)) p (.ins C dx (putF "_snapshots" (.ref D) (f4 ol (presentO rs) bt bg)))) D = some (.dK sks) := by rw [upd_ne nDp, upd_ne nDbg]; exact hD'
        have yes8 : ∀ n : Int, begO rs n ≠ none → ∃ l, valV sks (.inl n) = some (.ref l) ∧ (upd (upd H' bg (.dK bks)) p (.ins C dx (putF "_snapshots" (.ref D) (f4 ol (presentO rs) bt bg)))) l = some (.lst []) ∧ H6 l = Option.none := fun n hn => by
          obtain ⟨l, a1, a2, a3⟩ := yes n ((bmem n).mpr hn)
          refine ⟨l, a1, ?_, f67 l a3⟩
          rw [upd_ne (ne_of a2 hp' (fun z => nomatch z)), upd_ne (ne_of a2 (sm _ _ hbg7) (fun z => nomatch z))]; exact a2
        have no8 : ∀ n : Int, begO rs n = none → valV sks (.inl n) = none := fun n hn => no n fun h => (bmem n).mp h hn
        generalize upd (upd H' bg (.dK bks)) p (.ins C dx (putF "_snapshots" (.ref D) (f4 ol (presentO rs) bt bg))) = H8 at hp8 o8 hD8 yes8
        have nbtp : bt ≠ p := fun e => ne_of L6.p L6.tb.d (fun z => nomatch z) e.symm
        have hbt8 := o8 _ _ L6.tb.d (by simpa using nbtp)
        refine ⟨bt, _, hbt8, trivial, fun od2 => ?_⟩
        have nDbt : D ≠ bt := ne_of hD8 hbt8 (fun z => nomatch z)
        have hbt9 : (upd H8 bt (.frz od2 (.dT kvs))) bt = some (.frz od2 (.dT kvs)) := upd_same
        have o9 : Off [p, bt] H6 (upd H8 bt (.frz od2 (.dT kvs))) := fun b u e n => by
          have n1 : b ≠ p := fun z => n (by simp [z])
          have n2 : b ≠ bt := fun z => n (by simp [z])
          rw [upd_ne n2]; exact o8 _ _ e (by simpa using n1)
        have hp9 : (upd H8 bt (.frz od2 (.dT kvs))) p = some (.ins C dx (rf ol (presentO rs) bt bg D)) := by rw [upd_ne (fun z => nbtp z.symm)]; exact hp8
        have hD9 : (upd H8 bt (.frz od2 (.dT kvs))) D = some (.dK sks) := by rw [upd_ne nDbt]; exact hD8
        have yes9 : ∀ n : Int, begO rs n ≠ none → ∃ l, valV sks (.inl n) = some (.ref l) ∧ (upd H8 bt (.frz od2 (.dT kvs))) l = some (.lst []) ∧ H6 l = Option.none := fun n hn => by
          obtain ⟨l, a1, a2, a3⟩ := yes8 n hn
          exact ⟨l, a1, by rw [upd_ne (ne_of a2 hbt8 (fun z => nomatch z))]; exact a2, a3⟩
        generalize upd H8 bt (.frz od2 (.dT kvs)) = H9 at hbt9 o9 hp9 hD9 yes9
        refine ⟨_, rfl, p, C, dx, _, _, rfl, hp9, T.cl, T.k_bt, rf_bt, bt, od2, rfl, .inr ⟨kvs, hbt9, ?_⟩⟩
        refine for_it walk_keysT (fun i σ' H' => ∃ v3 : Option V, σ' = [some (.ref p), some (.ref a), v2, v3, v4, v5] ∧ Off [p, bt] H6 H' ∧ H' p = some (.ins C dx (rf ol (presentO rs) bt bg D)) ∧ H' bt = some (.frz od2 (.dT kvs)) ∧ H' D = some (.dK sks) ∧ ∀ n : Int, begO rs n ≠ none → ∃ (l : Addr) (zs : List Int), valV sks (.inl n) = some (.ref l) ∧ H' l = some (.lst (zs.map V.int)) ∧ zs.length ≤ i ∧ H6 l = Option.none ∧ (∀ m, m ∈ zs ↔ (snapK n m ∈ (kvs.take i).map (·.1) ∧ SnapEx rs n m)) ∧ zs.Nodup)
          ⟨_, rfl, o9, hp9, hbt9, hD9, fun n hn => by
            obtain ⟨l, a1, a2, a3⟩ := yes9 n hn
            exact ⟨l, [], a1, a2, Nat.le_refl _, a3, (fun m => by simp), List.nodup_nil⟩⟩ (fun i σ' H' _ ⟨_, _, _, _, hb, _⟩ => hb) ?_ ?_
        · rintro i x σ' HA HB hi ⟨v3, rfl, oA, hpA, hbA, hDA, snA⟩ ⟨rfl, k, v, qa, hki, rfl, hqa⟩
          have tkA : (kvs.take (i + 1)).map (·.1) = (kvs.take i).map (·.1) ++ [k] := by rw [List.take_add_one, hki, List.map_append]; rfl
          have kmem : k ∈ kvs.map (·.1) := List.mem_map.mpr ⟨_, List.mem_of_getElem? hki, rfl⟩
          have krow := hBT.mem.mp kmem
          obtain ⟨r, hr', ef, hef, hke⟩ := rowsF_ex.mp krow
          have kform : TForm k := by rw [← hke]; exact effR_form ef hef
          have ksn : SForm k := by rw [← hke]; exact effR_s ef hef
          have kok : KOk k := by rw [← hke]; exact effR_k ef hef
          obtain ⟨kw, kn, kr, ek⟩ := id kform
          have hww : word k = kw := by rw [ek]; rfl
          have hk' : HB qa = some (.tup (V.str kw :: V.int kn :: kr.map kV)) := by
            have z := hqa
            rw [ek] at z; exact z
          have hro : RO K C HB p rs := ⟨dx, ol, bt, bg, D, kvs, hpA, hBT.off oA L6.p L6.tb.d (.inr ⟨od2, hbA⟩) hg⟩
          have stay : (∀ n m, k = snapK n m → shownB rs k = false) → ∀ Hx, Same HB Hx → ∀ n : Int, begO rs n ≠ none → ∃ (l : Addr) (zs : List Int), valV sks (.inl n) = some (.ref l) ∧ Hx l = some (.lst (zs.map V.int)) ∧ zs.length ≤ i + 1 ∧ H6 l = Option.none ∧ (∀ m, m ∈ zs ↔ (snapK n m ∈ (kvs.take (i + 1)).map (·.1) ∧ SnapEx rs n m)) ∧ zs.Nodup := fun hno Hx sx n hn => by
            obtain ⟨l, zs, a1, a2, a3, a4, a5, a6⟩ := snA n hn
            refine ⟨l, zs, a1, sx _ _ a2, by omega, a4, fun m => ?_, a6⟩
            rw [a5, tkA, List.mem_append]
            constructor
            · rintro ⟨z1, z2⟩; exact ⟨.inl z1, z2⟩
            · rintro ⟨z1 | z1, z2⟩
              · exact ⟨z1, z2⟩
              · have e := (List.mem_singleton.mp z1).symm
                have := hno n m e
                unfold SnapEx at z2
                rw [← e, this] at z2; cases z2
          refine ⟨_, rfl, qa, _, _, _, rfl, rfl, SqT.of hk', atI_nat (j := 0) rfl, rfl, _, rfl, ?_⟩
          by_cases cw : kw = "snap"
          · rw [cw, str_eqT]
            obtain ⟨n0, m0, ek2⟩ := ksn (hww.trans cw)
            refine iteT ⟨_, rfl, p, _, _, rfl, hpA, rf_no (by decide) (by decide) (by decide) (by decide) (by decide), _, rfl, p, qa, rs, k, rfl, hro, hqa, kform, rl, fun HC sC => ⟨_, rfl, ?_⟩⟩
            cases hsh : shownB rs k with
            | false =>
              exact iteF ⟨_, rfl, oA.trans (Off.of sC), sC _ _ hpA, sC _ _ hbA, sC _ _ hDA, stay (fun n m e => hsh) HC sC⟩
            | true =>
              have hq2 : HC qa = some (.tup [V.str "snap", V.int n0, V.int m0]) := by
                have z := sC _ _ hqa
                rw [ek2] at z; exact z
              have hbn : begO rs n0 ≠ none := fun hn => by
                have := begO_none.mp hn r hr'
                rw [member_of hef (hke.trans ek2) (by decide) (by decide)] at this; cases this
              obtain ⟨l, zs, a1, a2, a3, a4, a5, a6⟩ := snA n0 hbn
              have a2C := sC _ _ a2
              have hpC := sC _ _ hpA
              have hbC := sC _ _ hbA
              have hDC := sC _ _ hDA
              have ln3 := hBT.ln
              refine iteT ⟨_, rfl, p, C, dx, _, _, rfl, hpC, T.cl, T.k_sn, rf_sn, _, rfl, qa, _, _, _, rfl, rfl, SqT.of hq2, atI_nat (j := 1) rfl, D, _, rfl, .inl ⟨sks, .inl n0, .inl hDC, rfl, a1.symm⟩, .inl ⟨rfl, _, SqL.of a2C⟩, _, rfl, qa, _, _, _, rfl, rfl, SqT.of hq2, atI_nat (j := 2) rfl, nil_ ⟨l, _, _, rfl, rfl, a2C, by rw [List.length_map]; exact small1000 (by omega), ?_⟩⟩
              have keep : ∀ b u, HC b = some u → b ≠ l → (upd HC l (.lst (zs.map V.int ++ [.int m0]))) b = some u := fun b u e n => by rw [upd_ne n]; exact e
              refine ⟨_, rfl, fun b u e n => keep _ _ ((oA.trans (Off.of sC)) _ _ e n) (ne_of_none e a4), keep _ _ hpC (ne_of hpC a2C (fun z => nomatch z)), keep _ _ hbC (ne_of hbC a2C (fun z => nomatch z)), keep _ _ hDC (ne_of hDC a2C (fun z => nomatch z)), fun n hn => ?_⟩
              by_cases cn : n = n0
              · subst cn
                refine ⟨l, zs ++ [m0], a1, by rw [List.map_append]; exact upd_same, by rw [List.length_append, List.length_singleton]; omega, a4, fun m => ?_, ?_⟩
                rotate_left
                · rw [List.nodup_append]
                  refine ⟨a6, by simp, fun x hx y hy => ?_⟩
                  rw [List.mem_singleton.mp hy]
                  intro e
                  have hx1 := ((a5 x).mp hx).1
                  rw [e, show snapK n m0 = k from ek2.symm] at hx1
                  have nd1 : ((kvs.take (i + 1)).map (·.1)).Nodup := by
                    rw [List.map_take]; exact hBT.nd.sublist (List.take_sublist _ _)
                  rw [tkA, List.nodup_append] at nd1
                  exact nd1.2.2 k hx1 k (by simp) rfl
                rw [List.mem_append, a5, tkA, List.mem_append]
                constructor
                · rintro (⟨z1, z2⟩ | z)
                  · exact ⟨.inl z1, z2⟩
                  · rw [List.mem_singleton.mp z]
                    exact ⟨.inr (by rw [ek2]; exact List.mem_singleton.mpr rfl), by unfold SnapEx; rw [show snapK n m0 = k from ek2.symm]; exact hsh⟩
                · rintro ⟨z1 | z1, z2⟩
                  · exact .inl ⟨z1, z2⟩
                  · have e := List.mem_singleton.mp z1
                    rw [ek2] at e
                    have : m = m0 := by
                      have e3 : (Sum.inl m : Key) = .inl m0 := by
                        injection e with _ e; injection e with _ e; injection e
                      exact Sum.inl.inj e3
                    exact .inr (by rw [this]; simp)
              · obtain ⟨l', zs', b1, b2, b3, b4, b5, b6⟩ := snA n hn
                have nll : l' ≠ l := fun e => cn (inj n n0 l (by rw [← e]; exact b1) a1)
                refine ⟨l', zs', b1, keep _ _ (sC _ _ b2) nll, by omega, b4, fun m => ?_, b6⟩
                rw [b5, tkA, List.mem_append]
                constructor
                · rintro ⟨z1, z2⟩; exact ⟨.inl z1, z2⟩
                · rintro ⟨z1 | z1, z2⟩
                  · exact ⟨z1, z2⟩
                  · have e := List.mem_singleton.mp z1
                    rw [ek2] at e
                    have e3 : (Sum.inl n : Key) = .inl n0 := by
                      injection e with _ e; injection e
                    exact absurd (Sum.inl.inj e3) cn
          · rw [str_eqF cw]
            refine iteF ⟨_, rfl, oA, hpA, hbA, hDA, stay (fun n m e => ?_) HB (Same.refl HB)⟩
            rw [e] at hww
            exact absurd hww.symm cw
        · rintro σ' HA ⟨v3, rfl, oA, hpA, hbA, hDA, snA⟩
          refine ⟨hbA, ?_⟩
          have keep : ∀ b u, HA b = some u → b ≠ bt → (upd HA bt (.dT kvs)) b = some u := fun b u e n => by rw [upd_ne n]; exact e
          have oE : Off [p, bt] H6 (upd HA bt (.dT kvs)) := fun b u e n => keep _ _ (oA _ _ e n) fun z => n (by simp [z])
          have tkE := tk_off2 oE L6.p L6.tb.d
          have hE : (upd HA bt (.dT kvs)) bt = some (.dT kvs) := upd_same
          have bmm : ∀ b u, H6 b = some u → b ≠ p → b ≠ bt → (upd HA bt (.dT kvs)) b = some u := fun b u e n1 n2 => oE _ _ e fun m => by
            rcases List.mem_cons.mp m with z | m
            · exact n1 z
            · exact n2 (List.mem_singleton.mp m)
          refine q rs _ (fun b u e n => bmm _ _ (L6.o _ _ e n) (by simpa using n) (ne_of_none e hbt0)) ⟨dx, ol, ts, bt, bg, D, kvs, bks, sks, keep _ _ hpA (fun e => nbtp e.symm), hBT.off oE L6.p L6.tb.d (.inl hE) hg, bmm _ _ L6.l nolp (ne_of L6.l L6.tb.d (fun z => nomatch z)), paired_rtk tkE hg L6.pr, bmm _ _ L6.g (fun e => nbgp2 e.symm) (ne_of L6.g L6.tb.d (fun z => nomatch z)), L6.gv, keep _ _ hDA nDbt, ⟨fun n hn => ?_, no8⟩⟩ asc mem rl
          obtain ⟨l, zs, a1, a2, a3, a4, a5, a6⟩ := snA n hn
          have ln3 := hBT.ln
          refine ⟨l, zs, a1, keep _ _ a2 (fun e => by rw [e, L6.tb.d] at a4; cases a4), by omega, fun m => ?_, a6⟩
          rw [a5, List.take_length]
          constructor
          · exact fun z => z.2
          · intro z
            refine ⟨hBT.mem.mpr fun e => ?_, z⟩
            unfold SnapEx shownB at z
            have e2 : lastShown rs (snapK n m) (presentO rs) = none := by
              unfold lastShown
              rw [e]; rfl
            rw [e2] at z; cases z
end
end Sg

set_option Elab.async false
set_option linter.all false
set_option maxRecDepth 100000
set_option maxHeartbeats 4000000
namespace Sg
open PySem PySem.Spec PyProof.Rows L2
/-! ### what the program takes for live of a topic -/
def ViewN (rs : List Rc) (k : List Key) (m : Int) : Prop := m = presentO rs ∨ (word k = "place" ∧ SnapEx rs (spaceK k) m)
def spViews (K : PySem.W.Frag) (C : Addr) : Sp := fun vs H Q _ => ∃ (p tt : Addr) (rs : List Rc) (k : List Key), vs = [.ref p, .ref tt] ∧ RA K C H p rs ∧ KeyAt H tt k ∧ TForm k ∧
  ∀ (l : Addr) (zs : List Int) (H' : Hp), Same H H' → H' l = some (.lst (zs.map V.int)) → (∀ m, m ∈ zs ↔ ViewN rs k m) → zs.length ≤ 401 → Q (.ref l) H'
def firstO (rs : List Rc) (k : List Key) : Int := match (rowsF rs k).head? with
  | none => 0
  | some x => x.1
def lastF (rs : List Rc) (k : List Key) : Int := match (rowsF rs k).getLast? with
  | none => 0
  | some x => x.1
def LiveO (rs : List Rc) (k : List Key) (o : Int) : Prop :=
  if word k = "host" then o = lastF rs k else if word k = "gone" then o = lastF rs k ∧ ∃ b, begO rs (spaceK k) = some b ∧ b < o
  else ∃ m, ViewN rs k m ∧ ∃ x, lastShown rs k m = some x ∧ x.1 = o ∧ (noneQ x.2 = false ∨ x.1 ≠ firstO rs k)
def spLiveOrd (K : PySem.W.Frag) (C : Addr) : Sp := fun vs H Q _ => ∃ (p tt : Addr) (rs : List Rc) (k : List Key), vs = [.ref p, .ref tt] ∧ RA K C H p rs ∧ KeyAt H tt k ∧ TForm k ∧ rowsF rs k ≠ [] ∧ rs.length ≤ 100 ∧ (∀ r ∈ rs, RGood r) ∧
  ∀ (l : Addr) (zs : List Int) (H' : Hp), Same H H' → H' l = some (.lst (zs.map V.int)) → (∀ o, o ∈ zs ↔ LiveO rs k o) → zs.length ≤ 401 → Q (.ref l) H'
def sharedB (rs : List Rc) (k : List Key) : Prop := ∃ x, lastShown rs k (presentO rs) = some x ∧ noneQ x.2 = false ∧ ∃ m, SnapEx rs (spaceK k) m ∧ x.1 < m
def spIsShared (K : PySem.W.Frag) (C : Addr) : Sp := fun vs H Q _ => ∃ (p tt : Addr) (rs : List Rc) (k : List Key), vs = [.ref p, .ref tt] ∧ RA K C H p rs ∧ KeyAt H tt k ∧ TForm k ∧ rs.length ≤ 100 ∧
  ∀ b H', Same H H' → (b = true ↔ sharedB rs k) → Q (.bl b) H'
theorem gone_beg {rs : List Rc} {k : List Key} {n : Int} (h : rowsF rs k ≠ []) (hk : ∃ s, k = .inr "gone" :: .inl n :: s) : begO rs n ≠ none := fun hn => by
  obtain ⟨s, ek⟩ := hk
  obtain ⟨r, hr, e, he, hke⟩ := rowsF_ex.mp h
  have := begO_none.mp hn r hr
  rw [member_of he (hke.trans ek) (by decide) (by decide)] at this; cases this
section
variable {P : Program} {wd : World} {K : PySem.W.Frag} {mg : Str → Option Value} {base : Heap} {f fA fB fL fS fV C : Addr} {fd fdA fdB fdL fdS fdV : FuncData}
theorem scViews : FnScope ["rows", "topic"] ["rows", "topic"] (defScope sViews) := ⟨rfl, rfl, rfl, by decide +kernel, rfl, by decide +kernel, by decide +kernel⟩
theorem ok_views (F : Fun K "_views" "_views" sViews f fd) (T : CT K mg C) (MS : Mth P wd K mg base CX0 C "snapshots" 1 ["self", "namespace"] (spSnaps K C) fS fdS) : FnOk P wd K mg base CX0 2 f fd ["rows", "topic"] (spViews K C) := by
  refine F.ok scViews (fun vs H Q E h => ?_) (fun cdv A outer s H vs Q E hr h => ?_)
  · obtain ⟨p, tt, rs, k, rfl, _⟩ := h
    rfl
  · obtain ⟨p, tt, rs, k, rfl, hra, hk, ⟨kw, kn, kr, ek⟩, q⟩ := h
    refine ⟨_, (pss_cons (ps_if (pt_cmpR op_eq (pe_ix ix_tup (pv 1) pe_int (fun _ _ => rfl)) pe_str (nomark _))
      (pss_one (ps_ret (pe_lst (pa_cons (pe_fld (pv 0) rfl) (StX.pa_star (pe_meth (pv 0) T.cl MS.me MS.ok hr MS.bd .nil pass0 (pa_cons (pe_ix ix_tup (pv 1) pe_int (fun _ _ => rfl)) pa_nil)) pa_nil))))) pss_nil)
      (pss_one (ps_ret (pe_lst (pa_cons (pe_fld (pv 0) rfl) pa_nil))))), ?_⟩
    have hww : word k = kw := by rw [ek]; rfl
    have hss : spaceK k = kn := by rw [ek]; rfl
    have hk' : H tt = some (.tup (V.str kw :: V.int kn :: kr.map kV)) := by
      have z : H tt = some (.tup (k.map kV)) := hk
      rw [ek] at z; exact z
    obtain ⟨dx, ol, ts, bt, bg, sn, kvs, bks, sks, hp, _⟩ := id hra
    refine ⟨_, rfl, tt, _, _, _, rfl, rfl, SqT.of hk', atI_nat (j := 0) rfl, rfl, _, rfl, ?_⟩
    by_cases cw : kw = "place"
    · rw [cw, str_eqT]
      refine iteT ⟨_, rfl, p, C, _, _, _, rfl, hp, T.cl, T.k_pr, rf_pr, _, rfl, p, _, _, rfl, hp, rf_no (by decide) (by decide) (by decide) (by decide) (by decide), _, rfl, tt, _, _, _, rfl, rfl, SqT.of hk', atI_nat (j := 1) rfl, p, rs, kn, rfl, hra, fun l zs H1 s1 hl hm hz _ _ => ⟨l, _, rfl, .inr (SqL.of hl), ?_⟩⟩
      refine nil_ ⟨by show (_ :: (zs.map V.int ++ [])).length ≤ 16777216; rw [List.length_cons, List.length_append, List.length_map]; simp only [List.length_nil]; omega, fun D hD => ?_⟩
      refine q D (presentO rs :: zs) _ (s1.trans (same_new hD)) (by rw [upd_same, List.append_nil]; rfl) (fun m => ?_) (by rw [List.length_cons]; omega)
      unfold ViewN
      rw [hww, hss, List.mem_cons, hm]
      constructor
      · rintro (z | z)
        · exact .inl z
        · exact .inr ⟨cw, z⟩
      · rintro (z | ⟨_, z⟩)
        · exact .inl z
        · exact .inr z
    · rw [str_eqF cw]
      refine iteF ⟨_, rfl, p, C, _, _, _, rfl, hp, T.cl, T.k_pr, rf_pr, nil_ ⟨by show 1 ≤ sizeLine; decide, fun D hD => ?_⟩⟩
      refine q D [presentO rs] _ (same_new hD) upd_same (fun m => ?_) (by simp)
      unfold ViewN
      rw [hww, List.mem_singleton]
      constructor
      · exact .inl
      · rintro (z | ⟨z, _⟩)
        · exact z
        · exact absurd z cw
/-- what is shown, in the heap -/
theorem shown_at {K : PySem.W.Frag} {H H' : Hp} {v : V} {o : Option Rw} (h : ShownV K H v o) (s : Same H H') : ShownV K H' v o := by
  cases o with
  | none => exact h
  | some x =>
    obtain ⟨p, e, a⟩ := h
    exact ⟨p, e, a.same s⟩
end
end Sg

set_option Elab.async false
set_option linter.all false
set_option maxRecDepth 100000
set_option maxHeartbeats 4000000
namespace Sg
open PySem PySem.Spec PyProof.Rows L2
/-! ### the orders that are live of a topic, in the program -/
theorem shown_mem {rs : List Rc} {k : List Key} {m : Int} {x : Rw} (h : lastShown rs k m = some x) : x ∈ rowsF rs k := by
  unfold lastShown at h
  split at h
  · cases h
  · rename_i y hy
    split at h
    · cases h
    · cases h
      exact (List.mem_filter.mp (List.mem_of_getLast? hy)).1
theorem rowsF_t {rs : List Rc} {k : List Key} (hg : ∀ r ∈ rs, RGood r) : ∀ x ∈ rowsF rs k, tupO x.2 = true := by
  intro x hx
  obtain ⟨l0, hl0, hx⟩ := List.mem_flatten.mp hx
  obtain ⟨r, hr, rfl⟩ := List.mem_map.mp hl0
  exact rowsE_t (effR_t (hg r hr)) x hx
theorem shown_tk {K : PySem.W.Frag} {H H' : Hp} (s : TK H H') {rs : List Rc} {k : List Key} (hg : ∀ r ∈ rs, RGood r) : ∀ {vs : List V} {zs : List Int}, Paired (ShownV K H) vs (zs.map (lastShown rs k)) → Paired (ShownV K H') vs (zs.map (lastShown rs k)) := by
  intro vs zs
  induction zs generalizing vs with
  | nil => intro h; cases h; exact .nil
  | cons z zs ih =>
    intro h
    rw [List.map_cons] at h ⊢
    cases h with
    | cons a b =>
      refine .cons ?_ (ih b)
      cases hl : lastShown rs k z with
      | none => rw [hl] at a; exact a
      | some x =>
        rw [hl] at a
        obtain ⟨p, e, r⟩ := a
        exact ⟨p, e, r.tk (rowsF_t hg x (shown_mem hl)) s⟩
def pickO (f : Int) : Option Rw → Option Int
  | none => none
  | some x => if noneQ x.2 = false ∨ x.1 ≠ f then some x.1 else none
section
variable {P : Program} {wd : World} {K : PySem.W.Frag} {mg : Str → Option Value} {base : Heap} {f fA fB fL fS fV C : Addr} {fd fdA fdB fdL fdS fdV : FuncData}
theorem scLiveOrd : FnScope ["rows", "topic", "all_rows", "first", "_", "last", "shown", "number", "row"] ["rows", "topic"] (defScope sLiveOrd) := ⟨rfl, rfl, rfl, by decide +kernel, rfl, by decide +kernel, by decide +kernel⟩
theorem ok_liveOrd (F : Fun K "_live_orders" "_live_orders" sLiveOrd f fd) (T : CT K mg C) (MA : Mth P wd K mg base CX0 C "all_of" 1 ["self", "topic"] (spAllOf K C) fA fdA) (MB : Mth P wd K mg base CX0 C "begins" 1 ["self", "namespace"] (spBegins K C) fB fdB) (ML : Mth P wd K mg base CX0 C "last_shown" 2 ["self", "topic", "number"] (spLastShown K C) fL fdL) (GV : Def P wd K mg base CX0 "_views" 2 ["rows", "topic"] (spViews K C) fV fdV) : FnOk P wd K mg base CX0 3 f fd ["rows", "topic"] (spLiveOrd K C) := by
  refine F.ok scLiveOrd (fun vs H Q E h => ?_) (fun cdv A outer s H vs Q E hr h => ?_)
  · obtain ⟨p, tt, rs, k, rfl, _⟩ := h
    rfl
  · obtain ⟨p, tt, rs, k, rfl, hra, hk, hf, hne, hn, hg, q⟩ := h
    have hr1 : Room 1 _ := hr.mono (by decide)
    refine ⟨_, (pss_cons (ps_set (i := 2) scLiveOrd.nd rfl (Or.inl rfl) (pe_meth (pv 0) T.cl MA.me MA.ok hr1 MA.bd .nil pass0 (pa_cons (pv 1) pa_nil)))
      (pss_cons (ps_asg (pe_ix ix_list (pv 2) pe_int (fun _ _ => rfl)) (pg_tup (by rfl) (pgs_cons (pg_name (i := 3) scLiveOrd.nd rfl (Or.inr rfl)) (pgs_cons (pg_name (i := 4) scLiveOrd.nd rfl (Or.inl rfl)) L2.pgs_nil))))
      (pss_cons (ps_asg (pe_ix ix_list (pv 2) (pe_un un_neg pe_int) (fun _ _ => rfl)) (pg_tup (by rfl) (pgs_cons (pg_name (i := 5) scLiveOrd.nd rfl (Or.inl rfl)) (pgs_cons (pg_name (i := 4) scLiveOrd.nd rfl (Or.inl rfl)) L2.pgs_nil))))
      (pss_cons (ps_if (pt_cmpR op_eq (pe_ix ix_tup (pv 1) pe_int (fun _ _ => rfl)) pe_str (nomark _))
      (pss_one (ps_ret (pe_lst (pa_cons (pv 5) pa_nil)))) pss_nil)
      (pss_cons (ps_if (pt_cmpR op_eq (pe_ix ix_tup (pv 1) pe_int (fun _ _ => rfl)) pe_str (nomark _))
      (pss_one (ps_ret (pe_ifExp (pt_cmpR op_lt (pe_meth (pv 0) T.cl MB.me MB.ok hr1 MB.bd .nil pass0 (pa_cons (pe_ix ix_tup (pv 1) pe_int (fun _ _ => rfl)) pa_nil)) (pv 5) (nomark _)) (pe_lst (pa_cons (pv 5) pa_nil)) (pe_lst pa_nil)))) pss_nil)
      (pss_cons (ps_setLc (i := 6) (own := [("number", 7)]) (g := gName 7) (tt := tYes) (te := (tMeth C "last_shown" (spLastShown K C) [] E0 (tVar 0) (tCons (tVar 1) (tCons (tVar 7) tNil)))) (by rfl) scLiveOrd.nd rfl rfl (sw_true rfl rfl rfl (by decide +kernel)) (pi_list (pe_call GV.ok hr (by rfl) GV.mg GV.kp GV.bd .nil pass0 (pa_cons (pv 0) (pa_cons (pv 1) pa_nil)))) (blkOk_by (own := [("number", 7)]) (N := ["rows", "topic", "all_rows", "first", "_", "last", "shown", "number", "row"]) (sc := defScope sLiveOrd) (by decide +kernel)) (fun _ _ _ _ _ => pg_name (i := 7) scLiveOrd.nd rfl (Or.inl rfl)) (fun _ _ _ _ _ => pts_nil) (fun _ _ _ _ _ => by exact (pe_meth (pv 0) T.cl ML.me ML.ok hr ML.bd .nil pass0 (pa_cons (pv 1) (pa_cons (pv 7) pa_nil)))))
      (pss_one (ps_ret (pe_lc (own := [("row", 8)]) (g := gName 8) (tt := (tAnd (tTest (tOp (fun x y H Q => y = V.non ∧ Q (V.bl !decide (x = V.non)) H) (tVar 8) (tC .non))) (tOr (tTest (tOp (fun x y H Q => y = V.non ∧ Q (V.bl !decide (x = V.non)) H) (tOp (rIxT K) (tVar 8) (tC (.int 1))) (tC .non))) (tTest (tOp rNe (tOp (rIxT K) (tVar 8) (tC (.int 0))) (tVar 3)))))) (te := (tOp (rIxT K) (tVar 8) (tC (.int 0)))) (by rfl) scLiveOrd.nd (pi_list (pv 6)) (blkOk_by (own := [("row", 8)]) (N := ["rows", "topic", "all_rows", "first", "_", "last", "shown", "number", "row"]) (sc := defScope sLiveOrd) (by decide +kernel)) (fun _ _ _ _ _ => pg_name (i := 8) scLiveOrd.nd rfl (Or.inl rfl)) (fun _ _ _ _ _ => pts_one (PW.pt (pw_and (pt_cmpR op_notN (pv 8) pe_non (nomark _)) (pw_and1 (PW.pt (pw_or (pt_cmpR op_notN (pe_ix ix_tup (pv 8) pe_int (fun _ _ => rfl)) pe_non (nomark _)) (pw_or1 (pt_cmpR op_ne (pe_ix ix_tup (pv 8) pe_int (fun _ _ => rfl)) (pv 3) (nomark _))))))))) (fun _ _ _ _ _ => by exact (pe_ix ix_tup (pv 8) pe_int (fun _ _ => rfl)))))))))))), ?_⟩
    obtain ⟨kw, kn, kr, ek⟩ := id hf
    have hww : word k = kw := by rw [ek]; rfl
    have hss : spaceK k = kn := by rw [ek]; rfl
    have hk' : H tt = some (.tup (V.str kw :: V.int kn :: kr.map kV)) := by
      have z : H tt = some (.tup (k.map kV)) := hk
      rw [ek] at z; exact z
    obtain ⟨dx, ol, ts, bt, bg, sn, kvs, bks, sks, hp, _⟩ := id hra
    refine ⟨_, rfl, p, _, _, rfl, hp, rf_no (by decide) (by decide) (by decide) (by decide) (by decide), _, rfl, p, tt, rs, k, rfl, hra.ro, hk, fun l ps H1 s1 hl pr => ?_⟩
    obtain ⟨x0, xs0, e0⟩ := List.exists_cons_of_ne_nil hne
    obtain ⟨p0, ps0, ep0, r0⟩ : ∃ p0 ps0, ps = p0 :: ps0 ∧ RowAt K H1 p0 x0 := by
      rw [e0] at pr
      cases pr with
      | cons a b => exact ⟨_, _, rfl, a⟩
    obtain ⟨xs1, xl, e1⟩ : ∃ xs1 xl, rowsF rs k = xs1 ++ [xl] := by
      rcases List.eq_nil_or_concat (rowsF rs k) with e | ⟨xs, x, e⟩
      · exact absurd e hne
      · exact ⟨xs, x, by rw [e, List.concat_eq_append]⟩
    obtain ⟨qs, pl, epl, rl⟩ := paired_last (xs := xs1) (x := xl) (by rw [← e1]; exact pr)
    obtain ⟨v0, a0, _⟩ := id r0
    obtain ⟨vl, al, _⟩ := id rl
    have hl0 : H1 l = some (.lst (V.ref p0 :: ps0.map V.ref)) := by rw [hl, ep0]; rfl
    have hl1 : H1 l = some (.lst (qs.map V.ref ++ [V.ref pl])) := by rw [hl, epl, List.map_append]; rfl
    have hfirst : firstO rs k = x0.1 := by unfold firstO; rw [e0]; rfl
    have hlast : lastF rs k = xl.1 := by unfold lastF; rw [e1, List.getLast?_concat]
    have live : ∀ o, LiveO rs k o ↔ if kw = "host" then o = xl.1 else if kw = "gone" then o = xl.1 ∧ ∃ b, begO rs kn = some b ∧ b < o else ∃ m, ViewN rs k m ∧ ∃ x, lastShown rs k m = some x ∧ x.1 = o ∧ (noneQ x.2 = false ∨ x.1 ≠ x0.1) := fun o => by
      unfold LiveO
      rw [hww, hss, hfirst, hlast]
    refine ⟨_, rfl, l, _, _, V.ref p0, rfl, rfl, SqL.of hl0, atI_nat (j := 0) rfl, p0, _, rfl, SqT.of a0, rfl, _, _, rfl, _, _, rfl, rfl, ?_⟩
    refine ⟨_, rfl, 1, rfl, l, _, _, V.ref pl, rfl, rfl, SqL.of hl1, atI_last _ _, pl, _, rfl, SqT.of al, rfl, _, _, rfl, _, _, rfl, rfl, ?_⟩
    have hk1 := s1 _ _ hk'
    refine ⟨_, rfl, tt, _, _, _, rfl, rfl, SqT.of hk1, atI_nat (j := 0) rfl, rfl, _, rfl, ?_⟩
    by_cases ch : kw = "host"
    · rw [ch, str_eqT]
      refine iteT ⟨_, rfl, nil_ ⟨by show 1 ≤ sizeLine; decide, fun D hD => ?_⟩⟩
      refine q D [xl.1] _ (s1.trans (same_new hD)) upd_same (fun o => ?_) (by simp)
      rw [live, if_pos ch, List.mem_singleton]
    · rw [str_eqF ch]
      refine iteF ⟨_, rfl, tt, _, _, _, rfl, rfl, SqT.of hk1, atI_nat (j := 0) rfl, rfl, _, rfl, ?_⟩
      by_cases cg : kw = "gone"
      · rw [cg, str_eqT]
        obtain ⟨b, hb⟩ : ∃ b, begO rs kn = some b := Option.ne_none_iff_exists'.mp (gone_beg hne ⟨kr, by rw [ek, cg]⟩)
        refine iteT ⟨_, rfl, p, _, _, rfl, s1 _ _ hp, rf_no (by decide) (by decide) (by decide) (by decide) (by decide), _, rfl, tt, _, _, _, rfl, rfl, SqT.of hk1, atI_nat (j := 1) rfl, p, rs, kn, b, rfl, hra.same s1, hb, _, rfl, _, _, rfl, rfl, _, rfl, ?_⟩
        cases cb : decide (b < xl.1) with
        | true =>
          refine iteT ⟨_, rfl, nil_ ⟨by show 1 ≤ sizeLine; decide, fun D hD => ?_⟩⟩
          refine q D [xl.1] _ (s1.trans (same_new hD)) upd_same (fun o => ?_) (by simp)
          rw [live, if_neg ch, if_pos cg, List.mem_singleton]
          constructor
          · intro e; exact ⟨e, b, hb, by rw [e]; exact of_decide_eq_true cb⟩
          · exact fun z => z.1
        | false =>
          refine iteF ⟨by show 0 ≤ sizeLine; decide, fun D hD => ?_⟩
          refine q D [] _ (s1.trans (same_new hD)) upd_same (fun o => ?_) (by simp)
          rw [live, if_neg ch, if_pos cg]
          constructor
          · exact fun z => nomatch z
          · rintro ⟨e, b', hb', lt⟩
            rw [hb] at hb'; cases hb'
            rw [e] at lt
            exact absurd lt (of_decide_eq_false cb)
      · rw [str_eqF cg]
        refine iteF ⟨_, rfl, _, rfl, p, tt, rs, k, rfl, hra.same s1, s1 _ _ hk, hf, fun lv zs H2 s2 hlv hzm hzl => ⟨lv, rfl, ⟨_, SqL.of hlv⟩, fun D hD => ?_⟩⟩
        have s12 := s1.trans s2
        refine lc_list (K := K) (a := lv) (xs := zs.map V.int) (fun i H' => Same H2 H' ∧ ∃ vs, H' D = some (.lst vs) ∧ Paired (ShownV K H') vs ((zs.take i).map (lastShown rs k))) ⟨same_new hD, [], upd_same, .nil⟩ (fun i H' _ ⟨sm, _⟩ => SqL.of (sm _ _ hlv)) ?_ ?_
        · rintro i x H' hx ⟨sm, vs, hDv, pv⟩
          obtain ⟨m, hmi, rfl⟩ := map_get hx
          have hil := (List.getElem?_eq_some_iff.mp hmi).1
          have tkz : zs.take (i + 1) = zs.take i ++ [m] := by rw [List.take_add_one, hmi]; rfl
          have s3 := s12.trans sm
          refine ⟨rfl, yesIte ⟨_, rfl, p, _, _, rfl, s3 _ _ hp, rf_no (by decide) (by decide) (by decide) (by decide) (by decide), _, rfl, _, rfl, p, tt, rs, k, m, rfl, hra.ro.same s3, s3 _ _ hk, hf, hn, fun v H3 s34 hv => ?_⟩⟩
          have hD3 := s34 _ _ hDv
          have tk := tk_lst (xs' := vs ++ [v]) hD3
          have vl := pv.length
          rw [List.length_map, List.length_take] at vl
          refine ⟨vs, hD3, small1000 (by omega), fun b u e => ?_, _, upd_same, ?_⟩
          · rw [upd_ne (ne_of_none e hD)]; exact s34 _ _ (sm _ _ e)
          · rw [tkz]
            refine shown_tk tk hg ?_
            rw [List.map_append]
            exact paired_append (Paired.imp2 (fun _ _ z => shown_at z s34) pv) (.cons hv .nil)
        · rintro H3 ⟨sm, vs, hDv, pv⟩
          rw [List.length_map, List.take_length] at pv
          have vl := pv.length
          rw [List.length_map] at vl
          have s3 := s12.trans sm
          refine ⟨_, rfl, D, rfl, ⟨_, SqL.of hDv⟩, fun D2 hD2 => ?_⟩
          refine lc_list (K := K) (a := D) (xs := vs) (fun i H' => Same H3 H' ∧ H' D2 = some (.lst ((((zs.take i).map (lastShown rs k)).filterMap (pickO x0.1)).map V.int))) ⟨same_new hD2, upd_same⟩ (fun i H' _ ⟨sm', _⟩ => SqL.of (sm' _ _ hDv)) ?_ ?_
          · rintro i v H' hx ⟨sm', hD2'⟩
            obtain ⟨ox, hox, hsv⟩ := paired_at pv hx
            have hil := (List.getElem?_eq_some_iff.mp hx).1
            have tkm : (zs.take (i + 1)).map (lastShown rs k) = (zs.take i).map (lastShown rs k) ++ [ox] := by
              rw [List.map_take, List.map_take, List.take_add_one, hox]; rfl
            have skip : pickO x0.1 ox = none → Same H3 H' ∧ H' D2 = some (.lst ((((zs.take (i + 1)).map (lastShown rs k)).filterMap (pickO x0.1)).map V.int)) := fun e => by
              refine ⟨sm', ?_⟩
              rw [tkm, List.filterMap_append, List.filterMap_cons, e, List.filterMap_nil, List.append_nil]
              exact hD2'
            have alen : ((((zs.take i).map (lastShown rs k)).filterMap (pickO x0.1)).map V.int).length ≤ i := by
              rw [List.length_map]
              refine Nat.le_trans (List.length_filterMap_le _ _) ?_
              rw [List.length_map, List.length_take]; omega
            refine ⟨rfl, _, rfl, rfl, _, rfl, ?_⟩
            cases ox with
            | none =>
              obtain rfl : v = .non := hsv
              exact iteF (skip rfl)
            | some x =>
              obtain ⟨pr', rfl, v1, b1, b2⟩ := hsv
              have b1' := sm' _ _ b1
              have take : pickO x0.1 (some x) = some x.1 → ∃ acc, H' D2 = some (.lst acc) ∧ acc.length < sizeLine ∧ (Same H3 (upd H' D2 (.lst (acc ++ [.int x.1]))) ∧ (upd H' D2 (.lst (acc ++ [.int x.1]))) D2 = some (.lst ((((zs.take (i + 1)).map (lastShown rs k)).filterMap (pickO x0.1)).map V.int))) := fun e => by
                refine ⟨_, hD2', small1000 (by omega), fun b u z => by rw [upd_ne (ne_of_none z hD2)]; exact sm' _ _ z, ?_⟩
                rw [upd_same, tkm, List.filterMap_append, List.filterMap_cons, e, List.filterMap_nil, List.map_append]; rfl
              refine iteT ⟨_, rfl, pr', _, _, _, rfl, rfl, SqT.of b1', atI_nat (j := 1) rfl, rfl, _, rfl, ?_⟩
              rw [dp_noneQ b2]
              cases hq : noneQ x.2 with
              | false => exact iteT (iteT ⟨_, rfl, pr', _, _, _, rfl, rfl, SqT.of b1', atI_nat (j := 0) rfl, take (if_pos (.inl hq))⟩)
              | true =>
                refine iteF ⟨_, rfl, pr', _, _, _, rfl, rfl, SqT.of b1', atI_nat (j := 0) rfl, _, rfl, rfl, _, rfl, ?_⟩
                rw [int_dec]
                by_cases c : x.1 = x0.1
                · rw [decide_eq_true c]
                  exact iteF (skip (if_neg (fun z => by rcases z with z | z; rw [hq] at z; cases z; exact z c)))
                · rw [decide_eq_false c]
                  exact iteT ⟨_, rfl, pr', _, _, _, rfl, rfl, SqT.of b1', atI_nat (j := 0) rfl, take (if_pos (.inr c))⟩
          · rintro H4 ⟨sm', hD2'⟩
            rw [List.take_of_length_le (by omega)] at hD2'
            refine q D2 _ H4 (s3.trans sm') hD2' (fun o => ?_) ?_
            · rw [live, if_neg ch, if_neg cg, List.mem_filterMap]
              constructor
              · rintro ⟨ox, hox, e⟩
                obtain ⟨m, hm, e2⟩ := List.mem_map.mp hox
                cases ox with
                | none => cases e
                | some x =>
                  have e' : (if noneQ x.2 = false ∨ x.1 ≠ x0.1 then some x.1 else none) = some o := e
                  split at e'
                  · rename_i c
                    exact ⟨m, (hzm m).mp hm, x, e2, Option.some.inj e', c⟩
                  · cases e'
              · rintro ⟨m, hm, x, e2, e3, c⟩
                exact ⟨some x, List.mem_map.mpr ⟨m, (hzm m).mpr hm, e2⟩, by rw [← e3]; exact if_pos c⟩
            · refine Nat.le_trans (List.length_filterMap_le _ _) ?_
              rw [List.length_map]; exact hzl
end
end Sg

set_option Elab.async false
set_option linter.all false
set_option maxRecDepth 100000
set_option maxHeartbeats 4000000
namespace Sg
open PySem PySem.Spec PyProof.Rows L2
/-! ### the live records, the shared places -/
open Classical in
noncomputable def progL (rs : List Rc) : List Rc := rs.filter fun r => decide (∃ k, rowsF rs k ≠ [] ∧ LiveO rs k r.o)
def OnceP (rs : List Rc) : Prop := rs.length ≤ 100 ∧ (∀ r ∈ rs, RGood r) ∧ ∀ x ∈ rs, ∀ y ∈ rs, x.o = y.o → x = y
def spLiveRec (K : PySem.W.Frag) : Sp := fun vs H Q _ => ∃ (a : Addr) (ts : List Addr) (rs : List Rc), vs = [.ref a] ∧ SqL K H a (ts.map V.ref) ∧ Paired (RecAt K H) ts rs ∧ OnceP rs ∧
  ∀ l ts' rs' H', Same H H' → H l = Option.none → H' l = some (.lst (ts'.map V.ref)) → Paired (RecAt K H') ts' (progL rs') → rs'.Pairwise (fun x y => x.o < y.o) → (∀ r, r ∈ rs' ↔ r ∈ rs) → rs'.length ≤ 100 → Q (.ref l) H'
def prK (k : List Key) : IP := (spaceK k, thirdK k)
def ShK (rs : List Rc) (k : List Key) : Prop := word k = "place" ∧ sharedB rs k
open Classical in
noncomputable def shPl (rs : List Rc) (ks : Tops) : List IP := (ks.filter fun k => decide (ShK rs k)).map prK
def spSharedPl (K : PySem.W.Frag) : Sp := fun vs H Q _ => ∃ (a : Addr) (ts : List Addr) (rs : List Rc), vs = [.ref a] ∧ SqL K H a (ts.map V.ref) ∧ Paired (RecAt K H) ts rs ∧ OnceP rs ∧
  ∀ l ps ys ks rs' H', Same H H' → H l = Option.none → H' l = some (.lst (ps.map V.ref)) → Paired (PairAt H') ps ys → ys.Perm (shPl rs' ks) → SrtP ys → ks.Nodup → (∀ k, k ∈ ks ↔ rowsF rs' k ≠ []) → rs'.Pairwise (fun x y => x.o < y.o) → (∀ r, r ∈ rs' ↔ r ∈ rs) → rs'.length ≤ 100 → Q (.ref l) H'
theorem same_of_off {H H' : Hp} {x : Addr} (o : Off [x] H H') (h : H x = Option.none) : Same H H' := fun b u e => o _ _ e (by simpa using ne_of_none e h)
theorem topF_form {rs : List Rc} {k : List Key} (h : rowsF rs k ≠ []) : TForm k ∧ KOk k ∧ SForm k := by
  obtain ⟨r, hr, e, he, hk⟩ := rowsF_ex.mp h
  rw [← hk]
  exact ⟨effR_form e he, effR_k e he, effR_s e he⟩
theorem effR_p {r : Rc} : ∀ e ∈ effR r, PForm e.1 := by
  intro e he
  rcases List.mem_cons.mp he with rfl | he
  · exact fun h => absurd h (wnp (w := "host") (r := [.inl r.h]) (by decide))
  · exact effB_p e he
theorem topF_p {rs : List Rc} {k : List Key} (h : rowsF rs k ≠ []) : PForm k := by
  obtain ⟨r, hr, e, he, hk⟩ := rowsF_ex.mp h
  rw [← hk]
  exact effR_p e he
section
variable {P : Program} {wd : World} {K : PySem.W.Frag} {mg : Str → Option Value} {base : Heap} {f fI fT fO fS C : Addr} {fd fdI fdT fdO fdS : FuncData}
theorem scLiveRec : FnScope ["records", "rows", "live", "topic", "order", "record"] ["records"] (defScope sLiveRecs) := ⟨rfl, rfl, rfl, by decide +kernel, rfl, by decide +kernel, by decide +kernel⟩
theorem ok_liveRec (F : Fun K "live_records" "live_records" sLiveRecs f fd) (T : CT K mg C) (MK : Mk K C fI) (GI : FnOk P wd K mg base CX0 4 fI fdI ["self", "records"] (spRInit K C)) (bI : Binds K fdI ["self", "records"] []) (MT : Mth P wd K mg base CX0 C "topics" 1 ["self"] (spTopics K C) fT fdT) (GO : Def P wd K mg base CX0 "_live_orders" 3 ["rows", "topic"] (spLiveOrd K C) fO fdO) : FnOk P wd K mg base CX0 6 f fd ["records"] (spLiveRec K) := by
  refine F.ok scLiveRec (fun vs H Q E h => ?_) (fun cdv A outer s H vs Q E hr h => ?_)
  · obtain ⟨a, ts, rs, rfl, _⟩ := h
    rfl
  · obtain ⟨a, ts, rs, rfl, ha, hpr, ⟨hn, hg, hu⟩, q⟩ := h
    have hr1 : Room 1 _ := hr.mono (by decide)
    have hr3 : Room 3 _ := hr.mono (by decide)
    refine ⟨_, (pss_cons (ps_set (i := 1) scLiveRec.nd rfl (Or.inl rfl) (pe_make MK GI hr (by rfl) T.gC bI .nil pass0 (pa_cons (pv 0) pa_nil)))
      (pss_cons (ps_set (i := 2) scLiveRec.nd rfl (Or.inr rfl) pe_dnewK)
      (pss_cons (ps_for PassesOwn.never rfl (pi_list (pe_meth0 (pv 1) T.cl MT.me MT.ok hr1 MT.bd .nil pass0)) (pg_name (i := 3) scLiveRec.nd rfl (Or.inl rfl))
      (pss_one (ps_for PassesOwn.never rfl (pi_list (pe_call GO.ok hr3 (by rfl) GO.mg GO.kp GO.bd .nil pass0 (pa_cons (pv 1) (pa_cons (pv 3) pa_nil)))) (pg_name (i := 4) scLiveRec.nd rfl (Or.inl rfl))
      (pss_one (ps_dput (hu_of hr) (pv 2) (pv 4) pe_bl rfl)))))
      (pss_one (ps_ret (pe_lc (own := [("record", 5)]) (g := gName 5) (tt := (tB (tDIn (tOp (rIxT K) (tVar 5) (tC (.int 0))) (tVar 2)))) (te := tVar 5) (by rfl) scLiveRec.nd (pi_list (pe_fld (pv 1) rfl)) (blkOk_by (own := [("record", 5)]) (N := ["records", "rows", "live", "topic", "order", "record"]) (sc := defScope sLiveRecs) (by decide +kernel)) (fun _ _ _ _ _ => pg_name (i := 5) scLiveRec.nd rfl (Or.inl rfl)) (fun _ _ _ _ _ => pts_one (pt_cmp (pc_din (hu_of hr) (pe_ix ix_tup (pv 5) pe_int (fun _ _ => rfl)) (pv 2)))) (fun _ _ _ _ _ => by exact (pv 5)))))))), ?_⟩
    refine ⟨_, rfl, fun x dx hx hdx ndx => ?_⟩
    have s1 : Same H (upd (upd H dx (.own x)) x (.ins C dx [])) := fun b u e => by
      rw [upd_ne (ne_of_none e hx), upd_ne (ne_of_none e hdx)]; exact e
    refine ⟨x, a, dx, ts, rs, rfl, upd_same, s1.seq ha, Paired.imp2 (fun _ _ z => z.same s1) hpr, hn, hg, hu, fun rs' H1 o1 hra asc mem len => ⟨rfl, ?_⟩⟩
    have s2 : Same H H1 := fun b u e => o1 _ _ (s1 _ _ e) (by simpa using ne_of_none e hx)
    have hg' : ∀ r ∈ rs', RGood r := fun r hr' => hg r ((mem r).mp hr')
    clear o1 s1
    refine fun d hd => ?_
    have s3 := same_new (o := .dK []) hd
    have hd2 : (upd H1 d (.dK [])) d = some (.dK []) := upd_same
    generalize upd H1 d (.dK []) = H2 at s3 hd2
    obtain ⟨dx', ol, ts', bt, bg, sn, kvs0, bks, sks, hp, hbt, hol, hrec, hrest⟩ := id hra
    refine ⟨_, rfl, x, _, _, rfl, s3 _ _ hp, rf_no (by decide) (by decide) (by decide) (by decide) (by decide), x, rs', rfl, hra.ro.same s3, fun lt bs ks H3 s34 hlt hlt3 hks nd kmem klen => ⟨lt, rfl, ⟨_, SqL.of hlt3⟩, ?_⟩⟩
    have klen' : ks.length ≤ 300 := by omega
    have bl := hks.length
    have ndlt : lt ≠ d := fun e => by rw [e, hd2] at hlt; cases hlt
    have s13 : Same H1 H3 := s3.trans s34
    have hd3 := s34 _ _ hd2
    refine for_list (K := K) (a := lt) (xs := bs.map V.ref) (fun i σ' H' => ∃ (v3 v4 v5 : Option V) (kvs : List (Key × V)), σ' = [some (.ref a), some (.ref x), some (.ref d), v3, v4, v5] ∧ Same H1 H' ∧ H' lt = some (.lst (bs.map V.ref)) ∧ Paired (KeyAt H') bs ks ∧ H' d = some (.dK kvs) ∧ kvs.length ≤ i * 401 ∧ ∀ o : Int, valV kvs (.inl o) ≠ none ↔ ∃ k ∈ ks.take i, LiveO rs' k o)
      ⟨_, _, _, [], rfl, s13, hlt3, hks, hd3, Nat.zero_le _, fun o => by simp [valV_nil]⟩ (fun i σ' H' _ ⟨_, _, _, _, _, _, hl', _⟩ => SqL.of hl') ?_ ?_
    · rintro i y σ' H4 hx' ⟨v3, v4, v5, kvs, rfl, s4, hlt4, hks4, hd4, kl, kv⟩
      obtain ⟨tt, hti, rfl⟩ := map_get hx'
      obtain ⟨k, hki, hk⟩ := paired_at hks4 hti
      have hil := (List.getElem?_eq_some_iff.mp hki).1
      have hkm := List.mem_of_getElem? hki
      have krow := (kmem k).mp hkm
      obtain ⟨kform, kok, _⟩ := topF_form krow
      have tkk : ks.take (i + 1) = ks.take i ++ [k] := by rw [List.take_add_one, hki]; rfl
      have hra4 := hra.same s4
      refine ⟨_, rfl, _, rfl, x, tt, rs', k, rfl, hra4, hk, kform, krow, len, hg', fun lo zs H5 s5 hlo hzm hzl => ⟨lo, rfl, ⟨_, SqL.of hlo⟩, ?_⟩⟩
      have hd5 := s5 _ _ hd4
      have nlo : lo ≠ d := ne_of hlo hd5 (fun z => nomatch z)
      refine for_list (K := K) (a := lo) (xs := zs.map V.int) (fun m σ' H' => ∃ (v4 : Option V) (kvs : List (Key × V)), σ' = [some (.ref a), some (.ref x), some (.ref d), some (.ref tt), v4, v5] ∧ Same H1 H' ∧ H' lo = some (.lst (zs.map V.int)) ∧ H' lt = some (.lst (bs.map V.ref)) ∧ Paired (KeyAt H') bs ks ∧ H' d = some (.dK kvs) ∧ kvs.length ≤ i * 401 + m ∧ ∀ o : Int, valV kvs (.inl o) ≠ none ↔ (∃ k ∈ ks.take i, LiveO rs' k o) ∨ o ∈ zs.take m)
        ⟨_, kvs, rfl, s4.trans s5, hlo, s5 _ _ hlt4, keys_same s5 hks4, hd5, by omega, fun o => by rw [kv]; simp⟩ (fun m σ' H' _ ⟨_, _, _, _, hl', _⟩ => SqL.of hl') ?_ ?_
      · rintro m y σ' H6 hy ⟨v4, kvs, rfl, s6, hlo6, hlt6, hks6, hd6, kl6, kv6⟩
        obtain ⟨o, hoi, rfl⟩ := map_get hy
        have hml := (List.getElem?_eq_some_iff.mp hoi).1
        have tkz : zs.take (m + 1) = zs.take m ++ [o] := by rw [List.take_add_one, hoi]; rfl
        have keep : ∀ kv' b u, H6 b = some u → b ≠ d → (upd H6 d (.dK kv')) b = some u := fun kv' b u e n => by rw [upd_ne n]; exact e
        refine ⟨_, rfl, _, rfl, d, _, rfl, DPut.k (k := Sum.inl o) hd6 ?_, ?_⟩
        · show _ < 16777216
          have : i * 401 ≤ 300 * 401 := Nat.mul_le_mul_right _ (by omega)
          omega
        · have tk := tk_dK (kvs' := putK kvs (.inl o) (.bl true)) hd6
          refine ⟨_, _, rfl, fun b u e => keep _ _ _ (s6 _ _ e) (ne_of_none e hd), keep _ _ _ hlo6 nlo, keep _ _ _ hlt6 ndlt, Paired.imp2 (fun _ _ z => tk.t _ _ z) hks6, upd_same, Nat.le_trans (length_putK _ _ _) (by omega), fun o' => ?_⟩
          rw [valV_put, tkz]
          by_cases c : o' = o
          · rw [if_pos (by rw [c])]
            exact ⟨fun _ => .inr (List.mem_append.mpr (.inr (by rw [c]; simp))), fun _ => by simp⟩
          · rw [if_neg (fun z => c (Sum.inl.inj z)), kv6]
            constructor
            · rintro (z | z)
              · exact .inl z
              · exact .inr (List.mem_append.mpr (.inl z))
            · rintro (z | z)
              · exact .inl z
              · rcases List.mem_append.mp z with z | z
                · exact .inr z
                · exact absurd (List.mem_singleton.mp z) c
      · rintro σ' H6 ⟨v4, kvs, rfl, s6, hlo6, hlt6, hks6, hd6, kl6, kv6⟩
        rw [List.length_map] at kl6 kv6
        rw [List.take_length] at kv6
        refine ⟨_, _, _, kvs, rfl, s6, hlt6, hks6, hd6, by rw [Nat.succ_mul]; omega, fun o => ?_⟩
        rw [kv6, hzm, tkk]
        constructor
        · rintro (⟨k', hk', z⟩ | z)
          · exact ⟨k', List.mem_append.mpr (.inl hk'), z⟩
          · exact ⟨k, List.mem_append.mpr (.inr (List.mem_singleton.mpr rfl)), z⟩
        · rintro ⟨k', hk', z⟩
          rcases List.mem_append.mp hk' with hk' | hk'
          · exact .inl ⟨k', hk', z⟩
          · rw [List.mem_singleton.mp hk'] at z; exact .inr z
    · rintro σ' H4 ⟨v3, v4, v5, kvs, rfl, s4, hlt4, hks4, hd4, kl, kv⟩
      rw [List.length_map, bl] at kl kv
      rw [List.take_length] at kv
      have hol4 := s4 _ _ hol
      have tl := hrec.length
      refine ⟨_, rfl, x, C, _, _, _, rfl, s4 _ _ hp, T.cl, T.k_or, rf_or, ol, rfl, ⟨_, SqL.of hol4⟩, fun D hD => ?_⟩
      have hdec : ∀ o : Int, (valV kvs (.inl o)).isSome = true ↔ ∃ k, rowsF rs' k ≠ [] ∧ LiveO rs' k o := fun o => by
        rw [Option.isSome_iff_ne_none, kv]
        exact ⟨fun ⟨k, a, b⟩ => ⟨k, (kmem k).mp a, b⟩, fun ⟨k, a, b⟩ => ⟨k, (kmem k).mpr a, b⟩⟩
      refine lc_filtB (rs'.map fun r => (valV kvs (.inl r.o)).isSome) (by rw [List.length_map, List.length_map, tl]) hD (SqL.of hol4) (fun _ => rfl) (by rw [List.length_map]; exact Nat.le_of_lt (small1000 (by omega))) (fun i' x' b H' Q' hx' hb' sm' kk' => ?_) (fun x' H' Q' hm' kk' => ⟨_, rfl, kk'⟩) fun H5 s5 hDl => ?_
      · obtain ⟨t', hti', rfl⟩ := map_get hx'
        obtain ⟨r', hri', hrt'⟩ := paired_at hrec hti'
        rw [List.getElem?_map, hri'] at hb'
        cases hb'
        dsimp only at kk'
        obtain ⟨ys', hts', _⟩ := hrt'.same (s4.trans sm')
        exact ⟨_, rfl, t', _, _, _, rfl, rfl, hts', atI_nat (j := 0) rfl, _, rfl, d, _, rfl, .inl ⟨kvs, .inl r'.o, .inl (sm' _ _ hd4), rfl, rfl⟩, _, rfl, kk' H' (Same.refl H')⟩
      · obtain ⟨ts1, e1, pr1⟩ := keepB_paired (p := fun r : Rc => (valV kvs (.inl r.o)).isSome) hrec
        rw [e1] at hDl
        have ef : rs'.filter (fun r => (valV kvs (.inl r.o)).isSome) = progL rs' := by
          unfold progL
          refine List.filter_congr fun r _ => ?_
          have z := hdec r.o
          by_cases c : (valV kvs (.inl r.o)).isSome = true
          · rw [c, @decide_eq_true _ (Classical.propDecidable _) (z.mp c)]
          · rw [Bool.not_eq_true] at c
            rw [c, @decide_eq_false _ (Classical.propDecidable _) (fun y => by have := z.mpr y; rw [c] at this; cases this)]
        rw [ef] at pr1
        have s15 := s4.trans s5
        exact q D ts1 rs' H5 (s2.trans s15) ((s2.trans s4).free hD) hDl (Paired.imp2 (fun _ _ z => z.same s15) pr1) asc mem len
end
end Sg

set_option Elab.async false
set_option linter.all false
set_option maxRecDepth 100000
set_option maxHeartbeats 4000000
namespace Sg
open PySem PySem.Spec PyProof.Rows L2
/-! ### core, need -/
def itP (g : List Rc → List Rc) : Nat → List Rc → List Rc
  | 0, x => x
  | n + 1, x => g (itP g n x)
theorem asc_inj {rs : List Rc} (h : rs.Pairwise (fun x y => x.o < y.o)) : ∀ x ∈ rs, ∀ y ∈ rs, x.o = y.o → x = y := by
  induction rs with
  | nil => intro x hx; cases hx
  | cons r rs ih =>
    rw [List.pairwise_cons] at h
    intro x hx y hy e
    rcases List.mem_cons.mp hx with e1 | h1 <;> rcases List.mem_cons.mp hy with e2 | h2
    · rw [e1, e2]
    · have := h.1 y h2; rw [← e1] at this; omega
    · have := h.1 x h1; rw [← e2] at this; omega
    · exact ih h.2 x h1 y h2 e
theorem asc_uniq {l m : List Rc} (hl : l.Pairwise (fun x y => x.o < y.o)) (hm : m.Pairwise (fun x y => x.o < y.o)) (h : ∀ r, r ∈ l ↔ r ∈ m) : l = m := by
  have n1 : l.Nodup := hl.imp fun h e => by rw [e] at h; omega
  have n2 : m.Nodup := hm.imp fun h e => by rw [e] at h; omega
  have p : l.Perm m := (List.perm_ext_iff_of_nodup n1 n2).mpr h
  exact List.Perm.eq_of_pairwise (fun a b _ _ h1 h2 => by omega) hl hm p
theorem progL_sub {rs : List Rc} : (progL rs).Sublist rs := List.filter_sublist
theorem progL_asc {rs : List Rc} (h : rs.Pairwise (fun x y => x.o < y.o)) : (progL rs).Pairwise (fun x y => x.o < y.o) := h.sublist progL_sub
theorem itP_sub {rs : List Rc} : ∀ n, (itP progL n rs).Sublist rs
  | 0 => List.Sublist.refl _
  | n + 1 => progL_sub.trans (itP_sub n)
theorem itP_asc {rs : List Rc} (h : rs.Pairwise (fun x y => x.o < y.o)) (n : Nat) : (itP progL n rs).Pairwise (fun x y => x.o < y.o) := h.sublist (itP_sub n)
theorem once_of {rs : List Rc} (h : rs.Pairwise (fun x y => x.o < y.o)) (hl : rs.length ≤ 100) (hg : ∀ r ∈ rs, RGood r) (n : Nat) : OnceP (itP progL n rs) :=
  ⟨Nat.le_trans (itP_sub n).length_le hl, fun r hr => hg r ((itP_sub n).subset hr), asc_inj (itP_asc h n)⟩
def spCore (K : PySem.W.Frag) : Sp := fun vs H Q _ => ∃ (a : Addr) (ts : List Addr) (rs : List Rc), vs = [.ref a] ∧ SqL K H a (ts.map V.ref) ∧ Paired (RecAt K H) ts rs ∧ OnceP rs ∧
  ∀ l ts' rs' n H', Same H H' → H l = Option.none → H' l = some (.lst (ts'.map V.ref)) → Paired (RecAt K H') ts' (itP progL n rs') → progL (itP progL n rs') = itP progL n rs' → rs'.Pairwise (fun x y => x.o < y.o) → (∀ r, r ∈ rs' ↔ r ∈ rs) → Q (.ref l) H'
def spNeed (K : PySem.W.Frag) : Sp := fun vs H Q _ => ∃ (a : Addr) (ts : List Addr) (rs : List Rc), vs = [.ref a] ∧ SqL K H a (ts.map V.ref) ∧ Paired (RecAt K H) ts rs ∧ OnceP rs ∧
  ∀ rs' n ks H', Same H H' → progL (itP progL n rs') = itP progL n rs' → rs'.Pairwise (fun x y => x.o < y.o) → (∀ r, r ∈ rs' ↔ r ∈ rs) → ks.Nodup → (∀ k, k ∈ ks ↔ rowsF rs' k ≠ []) → Q (.int (((itP progL n rs').length : Int) + ((shPl rs' ks).length : Int))) H'
def lenAt (σ : L2.St) (H : Hp) : Nat := match σ with
  | _ :: some (.ref l) :: _ => match H l with
    | some (.lst xs) => xs.length
    | _ => 0
  | _ => 0
theorem lenAt_eq {v : Option V} {l : Addr} {σ : L2.St} {H : Hp} {xs : List V} (h : H l = some (.lst xs)) : lenAt (v :: some (.ref l) :: σ) H = xs.length := by
  show (match H l with
    | some (.lst xs) => xs.length
    | _ => 0) = xs.length
  rw [h]
section
variable {P : Program} {wd : World} {K : PySem.W.Frag} {mg : Str → Option Value} {base : Heap} {f fO fL fC fS : Addr} {fd fdO fdL fdC fdS : FuncData}
end
end Sg

set_option Elab.async false
set_option linter.all false
set_option maxRecDepth 100000
set_option maxHeartbeats 4000000
namespace Sg
open PySem PySem.Spec PyProof.Rows L2
/-! ### what the program takes for live is what the law takes -/
theorem word_nh {r : Rc} {k : List Key} (hw : word k ≠ "host") : (effH r).1 ≠ k := fun e => hw (by rw [← e]; rfl)
theorem rowsE_cons {o : Int} {k : List Key} {e : Ef} {es : List Ef} : rowsE o k (e :: es) = (if e.1 = k then [(o, e.2)] else []) ++ rowsE o k es := by
  rw [← rowsE_one]
  unfold rowsE
  rw [← List.filterMap_append]; rfl
theorem rowsF_B {k : List Key} (hw : word k ≠ "host") {rs : List Rc} : rowsF rs k = rowsL rs k := by
  unfold rowsF rowsL
  congr 1
  refine List.map_congr_left fun r _ => ?_
  show rowsE r.o k (effH r :: effB r.o r.h r.b) = _
  rw [rowsE_cons, if_neg (word_nh hw), List.nil_append]
theorem rowsER_le {r : Rc} {k : List Key} : (rowsE r.o k (effR r)).length ≤ 1 := by
  show (rowsE r.o k (effH r :: effB r.o r.h r.b)).length ≤ 1
  rw [rowsE_cons]
  by_cases c : (effH r).1 = k
  · have : rowsE r.o k (effB r.o r.h r.b) = [] := by
      unfold rowsE
      rw [List.filterMap_eq_nil_iff]
      intro e he
      refine if_neg fun z => ?_
      exact effB_w e he (by rw [z, ← c]; rfl)
    rw [this, if_pos c]; simp
  · rw [if_neg c, List.nil_append]; exact rowsE_le
theorem rowsF_asc {k : List Key} {rs : List Rc} : rs.Pairwise (fun x y => x.o < y.o) → (rowsF rs k).Pairwise (fun x y => x.1 < y.1) := by
  refine snocInd (p := fun rs => rs.Pairwise (fun x y => x.o < y.o) → (rowsF rs k).Pairwise (fun x y => x.1 < y.1)) (fun _ => List.Pairwise.nil) (fun rs r ih hp => ?_) rs
  obtain ⟨h1, h2⟩ := asc_snoc hp
  rw [rowsF_snoc, List.pairwise_append]
  refine ⟨ih h1, ?_, fun x hx y hy => ?_⟩
  · have := rowsER_le (r := r) (k := k)
    match hm : rowsE r.o k (effR r), this with
    | [], _ => exact .nil
    | [x], _ => simp
    | _ :: _ :: _, h => simp at h
  · obtain ⟨q, hq, e, _⟩ := rowsF_of hx
    rw [e, rowsE_o y hy]
    exact h2 q hq
def hasK (r : Rc) (k : List Key) : Prop := ∃ e ∈ effR r, e.1 = k
theorem rowsF_mem {rs : List Rc} {k : List Key} {r : Rc} (hr : r ∈ rs) (h : hasK r k) : ∃ x ∈ rowsF rs k, x.1 = r.o := by
  obtain ⟨e, he, hk⟩ := h
  exact ⟨(r.o, e.2), List.mem_flatten.mpr ⟨_, List.mem_map.mpr ⟨r, hr, rfl⟩, List.mem_filterMap.mpr ⟨e, he, if_pos hk⟩⟩, rfl⟩
theorem asc_last {xs : List Rw} {x : Rw} (h : (xs ++ [x]).Pairwise (fun a b => a.1 < b.1)) : ∀ y ∈ xs ++ [x], y.1 ≤ x.1 := by
  rw [List.pairwise_append] at h
  intro y hy
  rcases List.mem_append.mp hy with hy | hy
  · exact Int.le_of_lt (h.2.2 y hy x (by simp))
  · rw [List.mem_singleton.mp hy]; exact Int.le_refl _
theorem lastF_iff {rs : List Rc} {k : List Key} {o : Int} (asc : rs.Pairwise (fun x y => x.o < y.o)) : (rowsF rs k ≠ [] ∧ o = lastF rs k) ↔ ∃ r ∈ rs, r.o = o ∧ hasK r k ∧ ∀ q ∈ rs, hasK q k → q.o ≤ o := by
  have ha := rowsF_asc (k := k) asc
  constructor
  · rintro ⟨hne, e⟩
    rcases List.eq_nil_or_concat (rowsF rs k) with z | ⟨xs, x, z⟩
    · exact absurd z hne
    · rw [List.concat_eq_append] at z
      have el : lastF rs k = x.1 := by unfold lastF; rw [z, List.getLast?_concat]
      obtain ⟨r, hr, hx, hk⟩ := rowsF_of (show x ∈ rowsF rs k by rw [z]; simp)
      refine ⟨r, hr, by rw [e, el, hx], hk, fun q hq hqk => ?_⟩
      obtain ⟨y, hy, ey⟩ := rowsF_mem hq hqk
      rw [z] at hy ha
      have := asc_last ha y hy
      rw [e, el, ← ey]; exact this
  · rintro ⟨r, hr, e, hk, all⟩
    obtain ⟨y, hy, ey⟩ := rowsF_mem hr hk
    refine ⟨List.ne_nil_of_mem hy, ?_⟩
    rcases List.eq_nil_or_concat (rowsF rs k) with z | ⟨xs, x, z⟩
    · rw [z] at hy; cases hy
    · rw [List.concat_eq_append] at z
      have el : lastF rs k = x.1 := by unfold lastF; rw [z, List.getLast?_concat]
      obtain ⟨r', hr', hx, hk'⟩ := rowsF_of (show x ∈ rowsF rs k by rw [z]; simp)
      have h1 := all r' hr' hk'
      rw [z] at hy ha
      have h2 := asc_last ha y hy
      rw [el]; omega
/-! hosts -/
def hostK (h : Int) : List Key := [.inr "host", .inl h]
theorem hasK_host {r : Rc} {h : Int} : hasK r (hostK h) ↔ r.h = h := by
  constructor
  · rintro ⟨e, he, hk⟩
    rcases List.mem_cons.mp he with rfl | he
    · have z : (Sum.inl r.h : Key) = .inl h := by
        injection hk with _ b; injection b
      exact Sum.inl.inj z
    · exact absurd (by rw [hk]; rfl) (effB_w e he)
  · intro e
    exact ⟨effH r, List.mem_cons_self, by rw [← e]; rfl⟩
theorem key_host {rs : List Rc} {k : List Key} (h : rowsF rs k ≠ []) (hw : word k = "host") : ∃ n, k = hostK n := by
  obtain ⟨r, hr, e, he, hk⟩ := rowsF_ex.mp h
  rcases List.mem_cons.mp he with rfl | he
  · exact ⟨r.h, hk.symm⟩
  · exact absurd (by rw [hk]; exact hw) (effB_w e he)
theorem host_iff {rs : List Rc} {h o : Int} (asc : rs.Pairwise (fun x y => x.o < y.o)) : (rowsF rs (hostK h) ≠ [] ∧ o = lastF rs (hostK h)) ↔ lastO rs h = some o := by
  rw [lastF_iff asc, lastO_iff asc]
  constructor
  · rintro ⟨r, hr, e, hk, all⟩
    exact ⟨r, hr, hasK_host.mp hk, e, fun q hq hh => all q hq (hasK_host.mpr hh)⟩
  · rintro ⟨r, hr, hh, e, all⟩
    exact ⟨r, hr, e, hasK_host.mpr hh, fun q hq hk => all q hq (hasK_host.mp hk)⟩
/-! namespaces that are gone -/
theorem hasK_gone {r : Rc} {n : Int} : hasK r (goneK n) ↔ r.b = .remove n := by
  obtain ⟨o, h, s, c, b⟩ := r
  have kg : ∀ {w : Str} {t : List Key}, ¬ w = "gone" → ¬ ((.inr w :: t : List Key) = goneK n) := fun hw => kne1 hw
  constructor
  · rintro ⟨e, he, hk⟩
    rcases List.mem_cons.mp he with rfl | he
    · exact absurd hk (kg (by decide))
    · cases b with
      | remove m =>
        simp only [effB, List.mem_cons, List.not_mem_nil, or_false] at he
        subst he
        have z : (Sum.inl m : Key) = .inl n := by
          injection hk with _ b; injection b
        rw [Sum.inl.inj z]
      | leave n hb => cases hb <;> simp only [effB, List.mem_cons, List.not_mem_nil, or_false] at he <;> (try rcases he with rfl | rfl) <;> (try subst he) <;> exact absurd hk (kg (by decide))
      | preempt n v w => cases w <;> simp only [effB, List.mem_cons, List.not_mem_nil, or_false] at he <;> (try rcases he with rfl | rfl) <;> (try subst he) <;> exact absurd hk (kg (by decide))
      | _ => simp only [effB, List.mem_cons, List.not_mem_nil, or_false] at he; subst he; exact absurd hk (kg (by decide))
  · intro e
    have e' : b = .remove n := e
    subst e'
    exact ⟨_, List.mem_cons_of_mem _ List.mem_cons_self, rfl⟩
theorem effB_gf {o h : Int} {b : Bd} : ∀ e ∈ effB o h b, word e.1 = "gone" → ∃ n, e.1 = goneK n := by
  have wg : ∀ {w : Str} {t : List Key}, ¬ w = "gone" → ¬ word (.inr w :: t) = "gone" := fun h => h
  intro e he hw
  cases b with
  | remove m => simp only [effB, List.mem_cons, List.not_mem_nil, or_false] at he; subst he; exact ⟨m, rfl⟩
  | leave n hb => cases hb <;> simp only [effB, List.mem_cons, List.not_mem_nil, or_false] at he <;> (try rcases he with rfl | rfl) <;> (try subst he) <;> exact absurd hw (wg (by decide))
  | preempt n v w => cases w <;> simp only [effB, List.mem_cons, List.not_mem_nil, or_false] at he <;> (try rcases he with rfl | rfl) <;> (try subst he) <;> exact absurd hw (wg (by decide))
  | _ => simp only [effB, List.mem_cons, List.not_mem_nil, or_false] at he; subst he; exact absurd hw (wg (by decide))
theorem key_gone {rs : List Rc} {k : List Key} (h : rowsF rs k ≠ []) (hw : word k = "gone") : ∃ n, k = goneK n := by
  obtain ⟨r, hr, e, he, hk⟩ := rowsF_ex.mp h
  rcases List.mem_cons.mp he with rfl | he
  · rw [← hk] at hw
    have : (("host" : Str) = "gone") := hw
    exact absurd this (by decide)
  · obtain ⟨n, e2⟩ := effB_gf e he (by rw [hk]; exact hw)
    exact ⟨n, hk.symm.trans e2⟩
theorem begO_lt {rs : List Rc} {n o : Int} (asc : rs.Pairwise (fun x y => x.o < y.o)) : (∃ b, begO rs n = some b ∧ b < o) ↔ ∃ q ∈ rs, q.o < o ∧ memberR q n = true := by
  induction rs with
  | nil => simp [begO]
  | cons r rs ih =>
    rw [List.pairwise_cons] at asc
    have e : begO (r :: rs) n = if memberR r n = true then some r.o else begO rs n := by
      unfold begO
      rw [List.find?_cons]
      cases memberR r n <;> rfl
    rw [e]
    by_cases c : memberR r n = true
    · rw [if_pos c]
      constructor
      · rintro ⟨b, hb, lt⟩
        cases hb
        exact ⟨r, List.mem_cons_self, lt, c⟩
      · rintro ⟨q, hq, lt, _⟩
        rcases List.mem_cons.mp hq with z | hq
        · rw [z] at lt; exact ⟨_, rfl, lt⟩
        · have := asc.1 q hq
          exact ⟨_, rfl, by omega⟩
    · rw [if_neg c, ih asc.2]
      constructor
      · rintro ⟨q, hq, z⟩; exact ⟨q, List.mem_cons_of_mem _ hq, z⟩
      · rintro ⟨q, hq, z⟩
        rcases List.mem_cons.mp hq with y | hq
        · rw [y] at z; exact absurd z.2 c
        · exact ⟨q, hq, z⟩
theorem gone_iff {rs : List Rc} {n o : Int} (asc : rs.Pairwise (fun x y => x.o < y.o)) : (rowsF rs (goneK n) ≠ [] ∧ o = lastF rs (goneK n) ∧ ∃ b, begO rs n = some b ∧ b < o) ↔ ∃ r ∈ rs, r.o = o ∧ r.b = .remove n ∧ GoneR rs r := by
  rw [← and_assoc, lastF_iff asc, begO_lt asc]
  constructor
  · rintro ⟨⟨r, hr, e, hk, all⟩, q, hq, lt, mq⟩
    have hb := hasK_gone.mp hk
    exact ⟨r, hr, e, hb, n, hb, ⟨q, hq, by rw [e]; exact lt, mq⟩, fun p hp gt hrem => by
      have := all p hp (hasK_gone.mpr hrem)
      omega⟩
  · rintro ⟨r, hr, e, hb, n', hb', ⟨q, hq, lt, mq⟩, all⟩
    rw [hb] at hb'; cases hb'
    refine ⟨⟨r, hr, e, hasK_gone.mpr hb, fun p hp hk => ?_⟩, q, hq, by rw [← e]; exact lt, mq⟩
    rcases Classical.em (p.o ≤ o) with z | z
    · exact z
    · exact absurd (hasK_gone.mp hk) (all p hp (by omega))
/-! what is shown -/
theorem present_lt {rs : List Rc} (asc : rs.Pairwise (fun x y => x.o < y.o)) : ∀ r ∈ rs, r.o < presentO rs := by
  intro r hr
  rcases List.eq_nil_or_concat rs with z | ⟨xs, x, z⟩
  · rw [z] at hr; cases hr
  · rw [List.concat_eq_append] at z
    have e : presentO rs = x.o + 1 := by unfold presentO; rw [z, List.getLast?_concat]
    rw [e]
    rw [z] at hr asc
    rcases List.mem_append.mp hr with hr | hr
    · have := (asc_snoc asc).2 r hr; omega
    · rw [List.mem_singleton.mp hr]; omega
/-- a number and a view that show the same -/
def SameV (rs : List Rc) (m : Int) (w : Vw) : Prop := ∀ r ∈ rs, decide (r.o < m) = inView w r.o
theorem sameV_now {rs : List Rc} (asc : rs.Pairwise (fun x y => x.o < y.o)) : SameV rs (presentO rs) none := fun r hr => decide_eq_true (present_lt asc r hr)
theorem sameV_at {rs : List Rc} {n m : Int} : SameV rs m (some (n, m)) := fun r hr => rfl
theorem hid_same {rs : List Rc} {k : List Key} {o m : Int} {w : Vw} (hw : word k ≠ "host") (s : SameV rs m w) : hidF rs k o m = hidL rs k o w := by
  unfold hidF hidL
  rw [strIn_two, decide_eq_false (fun z => hw z.symm), Bool.false_or]
  by_cases c : word k = "told"
  · rw [decide_eq_true c.symm, if_pos rfl, if_pos c]
  · rw [decide_eq_false (fun z => c z.symm), if_neg (by decide), if_neg c, rowsF_B (by show ¬ ("gone" : Str) = "host"; decide)]
    have : ∀ l : List Rw, (∀ x ∈ l, ∃ r ∈ rs, x.1 = r.o) → (l.any fun x => decide (o < x.1) && decide (x.1 < m)) = l.any fun x => decide (o < x.1) && inView w x.1 := by
      intro l
      induction l with
      | nil => intro _; rfl
      | cons x l ih =>
        intro h
        obtain ⟨r, hr, e⟩ := h x List.mem_cons_self
        rw [List.any_cons, List.any_cons, ih fun y hy => h y (List.mem_cons_of_mem _ hy), e, s r hr]
    exact this _ rowsL_mem
theorem vrows_same {rs : List Rc} {k : List Key} {m : Int} {w : Vw} (hw : word k ≠ "host") (s : SameV rs m w) : (rowsF rs k).filter (fun x => decide (x.1 < m)) = vrows rs k w := by
  unfold vrows
  rw [rowsF_B hw]
  refine List.filter_congr fun x hx => ?_
  obtain ⟨r, hr, e⟩ := rowsL_mem x hx
  rw [e, s r hr]
theorem shown_same {rs : List Rc} {k : List Key} {m : Int} {w : Vw} (hw : word k ≠ "host") (s : SameV rs m w) : lastShown rs k m = match (vrows rs k w).getLast? with
    | none => none
    | some x => if hidL rs k x.1 w = true then none else some x := by
  unfold lastShown
  rw [vrows_same hw s]
  cases (vrows rs k w).getLast? with
  | none => rfl
  | some x => dsimp only; rw [hid_same hw s]
theorem one_first {rs : List Rc} {k : List Key} {m : Int} {x : Rw} (asc : rs.Pairwise (fun x y => x.o < y.o)) (hl : ((rowsF rs k).filter fun x => decide (x.1 < m)).getLast? = some x) : ((rowsF rs k).filter fun x => decide (x.1 < m)).length = 1 ↔ x.1 = firstO rs k := by
  have ha := rowsF_asc (k := k) asc
  unfold firstO
  cases e : rowsF rs k with
  | nil => rw [e] at hl; cases hl
  | cons y ys =>
    rw [e] at hl ha
    rw [List.pairwise_cons] at ha
    have hm : x.1 < m := by
      have := (List.mem_filter.mp (List.mem_of_getLast? hl)).2
      exact of_decide_eq_true this
    have hx := (List.mem_filter.mp (List.mem_of_getLast? hl)).1
    have hy : y.1 < m := by
      rcases List.mem_cons.mp hx with z | z
      · rw [← z]; exact hm
      · have := ha.1 x z; omega
    rw [List.filter_cons, decide_eq_true hy, if_pos rfl] at hl ⊢
    show _ ↔ x.1 = y.1
    rw [List.length_cons]
    cases hf : ys.filter (fun x => decide (x.1 < m)) with
    | nil =>
      rw [hf] at hl
      cases hl
      simp
    | cons z zs =>
      rw [hf] at hl
      have hx2 : x ∈ z :: zs := by
        rw [List.getLast?_cons_cons] at hl
        exact List.mem_of_getLast? hl
      rw [← hf] at hx2
      have := ha.1 x (List.mem_filter.mp hx2).1
      constructor
      · intro h; simp at h
      · intro h; omega
theorem byTop_iff {rs : List Rc} {k : List Key} {m o : Int} {w : Vw} (asc : rs.Pairwise (fun x y => x.o < y.o)) (hw : word k ≠ "host") (s : SameV rs m w) : o ∈ byTop rs k w ↔ ∃ x, lastShown rs k m = some x ∧ x.1 = o ∧ (noneQ x.2 = false ∨ x.1 ≠ firstO rs k) := by
  rw [shown_same hw s]
  unfold byTop
  cases hl : (vrows rs k w).getLast? with
  | none => simp
  | some x =>
    dsimp only
    have h1 := one_first (k := k) (m := m) (x := x) asc (by rw [vrows_same hw s]; exact hl)
    rw [vrows_same hw s] at h1
    cases hh : hidL rs k x.1 w with
    | true => simp
    | false =>
      rw [if_neg Bool.false_ne_true, if_neg Bool.false_ne_true]
      by_cases c : noneQ x.2 = true ∧ (vrows rs k w).length = 1
      · rw [if_pos c]
        constructor
        · intro z; cases z
        · rintro ⟨y, e, _, z⟩
          cases e
          rcases z with z | z
          · rw [c.1] at z; cases z
          · exact absurd (h1.mp c.2) z
      · rw [if_neg c, List.mem_singleton]
        constructor
        · intro e
          refine ⟨x, rfl, e.symm, ?_⟩
          cases hq : noneQ x.2 with
          | false => exact .inl rfl
          | true => exact .inr fun z => c ⟨hq, h1.mpr z⟩
        · rintro ⟨y, e, e2, _⟩
          cases e; exact e2.symm
/-! topics -/
theorem foldT_mem {k : List Key} : ∀ {es : List Ef} {ts : Tops}, k ∈ es.foldl addT ts ↔ k ∈ ts ∨ (word k ≠ "gone" ∧ ∃ e ∈ es, e.1 = k)
  | [], ts => by simp
  | e :: es, ts => by
    rw [List.foldl_cons, foldT_mem (es := es) (ts := addT ts e)]
    unfold addT
    constructor
    · rintro (h | ⟨h1, e', he', h2⟩)
      · split at h
        · exact .inl h
        · rename_i c
          rcases List.mem_append.mp h with h | h
          · exact .inl h
          · rw [List.mem_singleton.mp h]
            exact .inr ⟨fun z => c (.inr z), e, List.mem_cons_self, rfl⟩
      · exact .inr ⟨h1, e', List.mem_cons_of_mem _ he', h2⟩
    · rintro (h | ⟨h1, e', he', h2⟩)
      · left
        split
        · exact h
        · exact List.mem_append.mpr (.inl h)
      · rcases List.mem_cons.mp he' with rfl | he'
        · left
          split
          · rename_i c
            rcases c with c | c
            · rw [← h2]; exact c
            · exact absurd c (by rw [h2]; exact h1)
          · exact List.mem_append.mpr (.inr (by rw [h2]; simp))
        · exact .inr ⟨h1, e', he', h2⟩
theorem topicsL_mem {rs : List Rc} {k : List Key} : k ∈ topicsL rs ↔ word k ≠ "gone" ∧ word k ≠ "host" ∧ rowsF rs k ≠ [] := by
  unfold topicsL
  rw [foldT_mem]
  constructor
  · rintro (h | ⟨h1, e, he, h2⟩)
    · cases h
    · obtain ⟨l, hl, he⟩ := List.mem_flatten.mp he
      obtain ⟨r, hr, rfl⟩ := List.mem_map.mp hl
      exact ⟨h1, by rw [← h2]; exact effB_w e he, rowsF_ex.mpr ⟨r, hr, e, List.mem_cons_of_mem _ he, h2⟩⟩
  · rintro ⟨h1, h2, h3⟩
    obtain ⟨r, hr, e, he, hk⟩ := rowsF_ex.mp h3
    rcases List.mem_cons.mp he with rfl | he
    · exact absurd (by rw [← hk]; rfl) h2
    · exact .inr ⟨h1, e, List.mem_flatten.mpr ⟨_, List.mem_map.mpr ⟨r, hr, rfl⟩, he⟩, hk⟩
theorem foldT_nodup : ∀ {es : List Ef} {ts : Tops}, ts.Nodup → (es.foldl addT ts).Nodup
  | [], _, h => h
  | e :: es, ts, h => by
    refine foldT_nodup (es := es) (ts := addT ts e) ?_
    unfold addT
    split
    · exact h
    · rename_i c
      rw [List.nodup_append]
      refine ⟨h, by simp, fun x hx y hy => ?_⟩
      rw [List.mem_singleton.mp hy]
      intro z
      exact c (.inl (by rw [← z]; exact hx))
theorem topicsL_nodup {rs : List Rc} : (topicsL rs).Nodup := foldT_nodup List.nodup_nil
/-! values and snapshots -/
theorem vrows_none {rs : List Rc} {k : List Key} : vrows rs k none = rowsL rs k := by
  unfold vrows
  exact List.filter_eq_self.mpr fun _ _ => rfl
theorem shown_val {rs : List Rc} {k : List Key} (asc : rs.Pairwise (fun x y => x.o < y.o)) (h1 : word k ≠ "host") (h2 : word k ≠ "gone") (h3 : word k ≠ "told") : noneQ (valL rs k) = false ↔ ∃ x, lastShown rs k (presentO rs) = some x ∧ noneQ x.2 = false := by
  rw [valL_eq h2 h3 asc, shown_same h1 (sameV_now asc), vrows_none]
  unfold valQ
  cases (rowsL rs k).getLast? with
  | none => simp [noneQ]
  | some x =>
    dsimp only
    cases hidL rs k x.1 none with
    | true => simp [noneQ]
    | false => simp
theorem snapEx_iff {rs : List Rc} {n m : Int} : SnapEx rs n m ↔ ∃ x, lastShown rs (snapK n m) (presentO rs) = some x ∧ noneQ x.2 = false := by
  unfold SnapEx shownB
  cases lastShown rs (snapK n m) (presentO rs) with
  | none => simp
  | some x => simp
theorem views_iff {rs : List Rc} {n m : Int} (asc : rs.Pairwise (fun x y => x.o < y.o)) : (n, m) ∈ viewsL rs ↔ SnapEx rs n m := by
  have w1 : word (snapK n m) ≠ "host" := by show ¬ ("snap" : Str) = "host"; decide
  have w2 : word (snapK n m) ≠ "gone" := by show ¬ ("snap" : Str) = "gone"; decide
  have w3 : word (snapK n m) ≠ "told" := by show ¬ ("snap" : Str) = "told"; decide
  rw [snapEx_iff, ← shown_val asc w1 w2 w3]
  unfold viewsL
  rw [List.mem_map]
  constructor
  · rintro ⟨k, hk, e⟩
    obtain ⟨hk1, hk2⟩ := List.mem_filter.mp hk
    unfold isView at hk2
    rw [Bool.and_eq_true, decide_eq_true_iff] at hk2
    obtain ⟨n', m', ek⟩ := topicsL_s k hk1 hk2.1
    have e' : (n', m') = (n, m) := by
      rw [ek] at e; exact e
    cases e'
    rw [ek] at hk2
    have z : (!noneQ (valL rs (snapK n m))) = true := hk2.2
    rw [Bool.not_eq_true'] at z
    exact z
  · intro h
    refine ⟨snapK n m, List.mem_filter.mpr ⟨?_, ?_⟩, rfl⟩
    · refine topicsL_mem.mpr ⟨w2, w1, fun e => ?_⟩
      have := (shown_val asc w1 w2 w3).mp h
      obtain ⟨x, hx, _⟩ := this
      unfold lastShown at hx
      rw [e] at hx; cases hx
    · unfold isView
      rw [h, decide_eq_true (show word (snapK n m) = "snap" from rfl)]; rfl
/-! the two agree -/
theorem live_iff {rs : List Rc} {o : Int} (asc : rs.Pairwise (fun x y => x.o < y.o)) : (∃ k, rowsF rs k ≠ [] ∧ LiveO rs k o) ↔ LiveP rs (viewsL rs) o := by
  unfold LiveP
  constructor
  · rintro ⟨k, hne, hl⟩
    unfold LiveO at hl
    by_cases ch : word k = "host"
    · rw [if_pos ch] at hl
      obtain ⟨n, ek⟩ := key_host hne ch
      subst ek
      exact .inl ⟨n, (host_iff asc).mp ⟨hne, hl⟩⟩
    · rw [if_neg ch] at hl
      by_cases cg : word k = "gone"
      · rw [if_pos cg] at hl
        obtain ⟨n, ek⟩ := key_gone hne cg
        subst ek
        obtain ⟨r, hr, e, _, g⟩ := (gone_iff asc).mp ⟨hne, hl.1, hl.2⟩
        exact .inr (.inr ⟨r, hr, e, g⟩)
      · rw [if_neg cg] at hl
        obtain ⟨m, hv, x, hx⟩ := hl
        refine .inr (.inl ⟨k, topicsL_mem.mpr ⟨cg, ch, hne⟩, ?_⟩)
        rcases hv with e | ⟨hp, hs⟩
        · rw [e] at hx
          exact .inl ((byTop_iff asc ch (sameV_now asc)).mpr ⟨x, hx⟩)
        · exact .inr ⟨hp, (spaceK k, m), (views_iff asc).mpr hs, rfl, (byTop_iff asc ch sameV_at).mpr ⟨x, hx⟩⟩
  · rintro (⟨n, h⟩ | ⟨k, hk, h⟩ | ⟨r, hr, e, g⟩)
    · obtain ⟨a, b⟩ := (host_iff asc).mpr h
      refine ⟨hostK n, a, ?_⟩
      unfold LiveO
      rw [if_pos (show word (hostK n) = "host" from rfl)]; exact b
    · obtain ⟨h1, h2, h3⟩ := topicsL_mem.mp hk
      refine ⟨k, h3, ?_⟩
      unfold LiveO
      rw [if_neg h2, if_neg h1]
      rcases h with h | ⟨hp, v, hv, e, h⟩
      · obtain ⟨x, hx⟩ := (byTop_iff asc h2 (sameV_now asc)).mp h
        exact ⟨presentO rs, .inl rfl, x, hx⟩
      · obtain ⟨vn, vm⟩ := v
        obtain ⟨x, hx⟩ := (byTop_iff asc h2 sameV_at).mp h
        have e' : spaceK k = vn := e
        exact ⟨vm, .inr ⟨hp, by rw [e']; exact (views_iff asc).mp hv⟩, x, hx⟩
    · obtain ⟨n, hb, g'⟩ := id g
      obtain ⟨a, b, c⟩ := (gone_iff asc).mpr ⟨r, hr, e, hb, g⟩
      refine ⟨goneK n, a, ?_⟩
      unfold LiveO
      rw [if_neg (show ¬ word (goneK n) = "host" by show ¬ ("gone" : Str) = "host"; decide), if_pos (show word (goneK n) = "gone" from rfl)]
      exact ⟨b, c⟩
theorem progL_eq {rs : List Rc} (asc : rs.Pairwise (fun x y => x.o < y.o)) : progL rs = liveL rs (viewsL rs) := by
  unfold progL liveL
  refine List.filter_congr fun r _ => ?_
  have z := live_iff (o := r.o) asc
  by_cases c : LiveP rs (viewsL rs) r.o
  · rw [@decide_eq_true _ (Classical.propDecidable _) c, @decide_eq_true _ (Classical.propDecidable _) (z.mpr c)]
  · rw [@decide_eq_false _ (Classical.propDecidable _) c, @decide_eq_false _ (Classical.propDecidable _) fun y => c (z.mp y)]
theorem rowLast_eq {rs : List Rc} {k : List Key} {x : Rw} (asc : rs.Pairwise (fun x y => x.o < y.o)) (h1 : word k ≠ "host") (h : lastShown rs k (presentO rs) = some x) : rowLast rs k = x.1 := by
  rw [shown_same h1 (sameV_now asc), vrows_none] at h
  unfold rowLast
  cases e : (rowsL rs k).getLast? with
  | none => rw [e] at h; cases h
  | some y =>
    rw [e] at h
    dsimp only at h
    split at h
    · cases h
    · cases h; rfl
theorem isSh_iff {rs : List Rc} {k : List Key} (asc : rs.Pairwise (fun x y => x.o < y.o)) : isSh rs (viewsL rs) k = true ↔ ShK rs k := by
  unfold isSh ShK
  rw [Bool.and_eq_true, decide_eq_true_iff]
  refine and_congr_right fun hw => ?_
  have w1 : word k ≠ "host" := by rw [hw]; decide
  have w2 : word k ≠ "gone" := by rw [hw]; decide
  have w3 : word k ≠ "told" := by rw [hw]; decide
  rw [Bool.and_eq_true, Bool.not_eq_true', shown_val asc w1 w2 w3, List.any_eq_true]
  unfold sharedB
  constructor
  · rintro ⟨⟨x, hx, hq⟩, v, hv, e⟩
    rw [Bool.and_eq_true, decide_eq_true_iff, decide_eq_true_iff, rowLast_eq asc w1 hx] at e
    obtain ⟨vn, vm⟩ := v
    exact ⟨x, hx, hq, vm, by rw [← e.1]; exact (views_iff asc).mp hv, e.2⟩
  · rintro ⟨x, hx, hq, m, hs, lt⟩
    refine ⟨⟨x, hx, hq⟩, (spaceK k, m), (views_iff asc).mpr hs, ?_⟩
    rw [rowLast_eq asc w1 hx, decide_eq_true rfl, decide_eq_true lt]; rfl
theorem pr_inj {rs : List Rc} {k k' : List Key} (h : PForm k) (h' : PForm k') (w : word k = "place") (w' : word k' = "place") (e : prK k = prK k') : k = k' := by
  obtain ⟨n, m, e1⟩ := h w
  obtain ⟨n', m', e2⟩ := h' w'
  rw [e1, e2] at e
  have e3 : (n, m) = (n', m') := e
  cases e3
  rw [e1, e2]
theorem nodup_mapOn {α β : Type} {f : α → β} : ∀ {l : List α}, l.Nodup → (∀ x ∈ l, ∀ y ∈ l, f x = f y → x = y) → (l.map f).Nodup
  | [], _, _ => List.nodup_nil
  | a :: l, nd, h => by
    rw [List.nodup_cons] at nd
    rw [List.map_cons, List.nodup_cons]
    refine ⟨fun z => ?_, nodup_mapOn nd.2 fun x hx y hy => h x (List.mem_cons_of_mem _ hx) y (List.mem_cons_of_mem _ hy)⟩
    obtain ⟨y, hy, e⟩ := List.mem_map.mp z
    have := h y (List.mem_cons_of_mem _ hy) a List.mem_cons_self e
    rw [this] at hy; exact nd.1 hy
theorem shared_perm {rs : List Rc} {ks : Tops} (asc : rs.Pairwise (fun x y => x.o < y.o)) (nd : ks.Nodup) (hk : ∀ k, k ∈ ks ↔ rowsF rs k ≠ []) : (shPl rs ks).Perm (sharedL rs (viewsL rs)) := by
  have m1 : ∀ k, k ∈ ks.filter (fun k => @decide (ShK rs k) (Classical.propDecidable _)) ↔ rowsF rs k ≠ [] ∧ ShK rs k := fun k => by
    rw [List.mem_filter, hk]
    exact and_congr_right fun _ => ⟨fun z => @of_decide_eq_true _ (Classical.propDecidable _) z, fun z => @decide_eq_true _ (Classical.propDecidable _) z⟩
  have m2 : ∀ k, k ∈ (topicsL rs).filter (isSh rs (viewsL rs)) ↔ rowsF rs k ≠ [] ∧ ShK rs k := fun k => by
    rw [List.mem_filter, isSh_iff asc, topicsL_mem]
    constructor
    · rintro ⟨⟨_, _, a⟩, b⟩; exact ⟨a, b⟩
    · rintro ⟨a, b⟩
      exact ⟨⟨by rw [b.1]; decide, by rw [b.1]; decide, a⟩, b⟩
  have p : (ks.filter (fun k => @decide (ShK rs k) (Classical.propDecidable _))).Perm ((topicsL rs).filter (isSh rs (viewsL rs))) :=
    (List.perm_ext_iff_of_nodup (nd.filter _) (topicsL_nodup.filter _)).mpr fun k => (m1 k).trans (m2 k).symm
  exact p.map prK
/-! rounds -/
theorem itP_len {g : List Rc → List Rc} (hg : ∀ x, (g x).length ≤ x.length ∧ ((g x).length = x.length → g x = x)) {x : List Rc} : ∀ n, g (itP g n x) = itP g n x ∨ (itP g n x).length + n ≤ x.length
  | 0 => .inr (Nat.le_refl _)
  | n + 1 => by
    rcases itP_len hg (x := x) n with h | h
    · left
      show g (g (itP g n x)) = g (itP g n x)
      rw [h, h]
    · have z := hg (itP g n x)
      show g (g (itP g n x)) = g (itP g n x) ∨ (g (itP g n x)).length + (n + 1) ≤ x.length
      by_cases c : (g (itP g n x)).length = (itP g n x).length
      · left; rw [z.2 c, z.2 c]
      · right; omega
theorem itP_stay {g : List Rc → List Rc} {x : List Rc} {n : Nat} (h : g (itP g n x) = itP g n x) : ∀ m, itP g (n + m) x = itP g n x
  | 0 => rfl
  | m + 1 => by
    show g (itP g (n + m) x) = _
    rw [itP_stay h m, h]
theorem itP_fix {g : List Rc → List Rc} (hg : ∀ x, (g x).length ≤ x.length ∧ ((g x).length = x.length → g x = x)) {x : List Rc} {n N : Nat} (hN : x.length < N) (h : g (itP g n x) = itP g n x) : itP g n x = itP g N x := by
  have hf : g (itP g N x) = itP g N x := by
    rcases itP_len hg (x := x) N with z | z
    · exact z
    · omega
  rcases Nat.le_total n N with c | c
  · obtain ⟨m, rfl⟩ := Nat.exists_eq_add_of_le c
    exact (itP_stay h m).symm
  · obtain ⟨m, rfl⟩ := Nat.exists_eq_add_of_le c
    exact itP_stay hf m
theorem progL_dec (x : List Rc) : (progL x).length ≤ x.length ∧ ((progL x).length = x.length → progL x = x) := ⟨progL_sub.length_le, fun h => progL_sub.eq_of_length h⟩
end Sg

set_option Elab.async false
set_option linter.all false
set_option maxRecDepth 100000
set_option maxHeartbeats 4000000
namespace Sg
open PySem PySem.Spec PyProof.Rows L2
/-! ### the value of a topic in a view -/
def progV (rs : List Rc) (k : List Key) (m : Int) : PyData := match lastShown rs k m with
  | none => .none
  | some x => x.2
def inW (rs : List Rc) (w : Vw) : List Rc := rs.filter fun r => inView w r.o
def valW (rs : List Rc) (k : List Key) (w : Vw) : PyData := valL (inW rs w) k
theorem valL_told {k : List Key} (hw : word k = "told") {rs : List Rc} : valL rs k = valQ rs k := by
  have st : ∀ (v : PyData) (e : Ef), valStep k v e = if e.1 = k then e.2 else v := fun v e => by
    unfold valStep
    rw [if_neg (fun z => z.2.2 hw)]
  have hid : ∀ rs o, hidL rs k o none = false := fun rs o => by unfold hidL; rw [if_pos hw]
  have vq : ∀ rs, valQ rs k = match (rowsL rs k).getLast? with
    | none => .none
    | some x => x.2 := fun rs => by
    unfold valQ
    cases (rowsL rs k).getLast? with
    | none => rfl
    | some x => dsimp only; rw [hid, if_neg Bool.false_ne_true]
  refine snocInd (p := fun rs => valL rs k = valQ rs k) rfl (fun rs r ih => ?_) rs
  have e0 : valL (rs ++ [r]) k = (effB r.o r.h r.b).foldl (valStep k) (valL rs k) := by
    unfold valL; rw [effsL_snoc, List.foldl_append]
  rw [e0, ih, vq, vq, rowsL_snoc]
  generalize rowsL rs k = X
  have last : ∀ (X : List Rw) (o : Int) (d : PyData), (match (X ++ [(o, d)]).getLast? with
    | none => .none
    | some x => x.2 : PyData) = d := fun X o d => by rw [List.getLast?_concat]
  rcases effB_two (o := r.o) (h := r.h) (b := r.b) with ⟨e, he⟩ | ⟨e, f, he, ne, _, _⟩
  · rw [he, List.foldl_cons, List.foldl_nil, rowsE_one, st]
    by_cases c : e.1 = k
    · rw [if_pos c, if_pos c, last]
    · rw [if_neg c, if_neg c, List.append_nil]
  · rw [he, List.foldl_cons, List.foldl_cons, List.foldl_nil, rowsE_two, rowsE_one, rowsE_one, st, st]
    by_cases c : e.1 = k
    · have c2 : ¬ f.1 = k := fun z => ne (c.trans z.symm)
      rw [if_pos c, if_neg c2, if_pos c, if_neg c2, List.append_nil, last]
    · rw [if_neg c, if_neg c, List.nil_append]
      by_cases c2 : f.1 = k
      · rw [if_pos c2, if_pos c2, last]
      · rw [if_neg c2, if_neg c2, List.append_nil]
theorem rowsL_filter {k : List Key} {p : Int → Bool} : ∀ {rs : List Rc}, rowsL (rs.filter fun r => p r.o) k = (rowsL rs k).filter fun x => p x.1
  | [] => rfl
  | r :: rs => by
    have ih := rowsL_filter (k := k) (p := p) (rs := rs)
    have e : rowsL (r :: rs) k = rowsE r.o k (effB r.o r.h r.b) ++ rowsL rs k := by unfold rowsL; rw [List.map_cons, List.flatten_cons]
    rw [e, List.filter_append, ← ih, List.filter_cons]
    have hx := rowsE_o (o := r.o) (k := k) (es := effB r.o r.h r.b)
    cases c : p r.o with
    | true =>
      rw [if_pos rfl]
      have e2 : rowsL (r :: rs.filter fun r => p r.o) k = rowsE r.o k (effB r.o r.h r.b) ++ rowsL (rs.filter fun r => p r.o) k := by unfold rowsL; rw [List.map_cons, List.flatten_cons]
      have f1 : (rowsE r.o k (effB r.o r.h r.b)).filter (fun x => p x.1) = rowsE r.o k (effB r.o r.h r.b) := List.filter_eq_self.mpr fun x h => by rw [hx x h]; exact c
      rw [e2, f1]
    | false =>
      have f1 : (rowsE r.o k (effB r.o r.h r.b)).filter (fun x => p x.1) = [] := List.filter_eq_nil_iff.mpr fun x h => by rw [hx x h, c]; simp
      rw [if_neg Bool.false_ne_true, f1, List.nil_append]
theorem rowsF_filter {k : List Key} {p : Int → Bool} : ∀ {rs : List Rc}, rowsF (rs.filter fun r => p r.o) k = (rowsF rs k).filter fun x => p x.1
  | [] => rfl
  | r :: rs => by
    have ih := rowsF_filter (k := k) (p := p) (rs := rs)
    have e : rowsF (r :: rs) k = rowsE r.o k (effR r) ++ rowsF rs k := by unfold rowsF; rw [List.map_cons, List.flatten_cons]
    rw [e, List.filter_append, ← ih, List.filter_cons]
    have hx := rowsE_o (o := r.o) (k := k) (es := effR r)
    cases c : p r.o with
    | true =>
      rw [if_pos rfl]
      have e2 : rowsF (r :: rs.filter fun r => p r.o) k = rowsE r.o k (effR r) ++ rowsF (rs.filter fun r => p r.o) k := by unfold rowsF; rw [List.map_cons, List.flatten_cons]
      have f1 : (rowsE r.o k (effR r)).filter (fun x => p x.1) = rowsE r.o k (effR r) := List.filter_eq_self.mpr fun x h => by rw [hx x h]; exact c
      rw [e2, f1]
    | false =>
      have f1 : (rowsE r.o k (effR r)).filter (fun x => p x.1) = [] := List.filter_eq_nil_iff.mpr fun x h => by rw [hx x h, c]; simp
      rw [if_neg Bool.false_ne_true, f1, List.nil_append]
theorem inW_asc {rs : List Rc} {w : Vw} (h : rs.Pairwise (fun x y => x.o < y.o)) : (inW rs w).Pairwise (fun x y => x.o < y.o) := h.sublist List.filter_sublist
theorem hid_inW {rs : List Rc} {k : List Key} {o : Int} {w : Vw} : hidL (inW rs w) k o none = hidL rs k o w := by
  unfold hidL
  split
  · rfl
  · unfold inW
    rw [rowsL_filter (p := fun o => inView w o), List.any_filter]
    congr 1
    funext x
    show (inView w x.1 && (decide (o < x.1) && true)) = _
    rw [Bool.and_true, Bool.and_comm]
theorem valW_eq {rs : List Rc} {k : List Key} {m : Int} {w : Vw} (asc : rs.Pairwise (fun x y => x.o < y.o)) (h1 : word k ≠ "host") (h2 : word k ≠ "gone") (s : SameV rs m w) : valW rs k w = progV rs k m := by
  unfold valW
  have e : valL (inW rs w) k = valQ (inW rs w) k := by
    by_cases c : word k = "told"
    · exact valL_told c
    · exact valL_eq h2 c (inW_asc asc)
  rw [e]
  unfold valQ progV
  rw [shown_same h1 s]
  have er : rowsL (inW rs w) k = vrows rs k w := rowsL_filter (p := fun o => inView w o)
  rw [er]
  cases (vrows rs k w).getLast? with
  | none => rfl
  | some x =>
    dsimp only
    rw [hid_inW]
    cases hidL rs k x.1 w with
    | true => rfl
    | false => rfl
/-! ### leaving out what is dead -/
theorem rowsF_of2 {rs : List Rc} {k : List Key} {x : Rw} (h : x ∈ rowsF rs k) : ∃ r ∈ rs, x.1 = r.o ∧ ∃ e ∈ effR r, e.1 = k ∧ e.2 = x.2 := by
  obtain ⟨l, hl, hx⟩ := List.mem_flatten.mp h
  obtain ⟨r, hr, rfl⟩ := List.mem_map.mp hl
  obtain ⟨e, he, z⟩ := List.mem_filterMap.mp hx
  split at z
  · cases z; exact ⟨r, hr, rfl, e, he, by assumption, rfl⟩
  · cases z
theorem snap_eff {r : Rc} {n m : Int} : ∀ e ∈ effR r, e.1 = snapK n m → noneQ e.2 = false → r.o = m ∧ ∃ n', r.b = .snap n' := by
  obtain ⟨o, h, s, c, b⟩ := r
  have ks : ∀ {w : Str} {t : List Key}, ¬ w = "snap" → ¬ ((.inr w :: t : List Key) = snapK n m) := fun hw => kne1 hw
  intro e he hk hq
  rcases List.mem_cons.mp he with rfl | he
  · exact absurd hk (ks (by decide))
  · cases b with
    | snap n' =>
      simp only [effB, List.mem_cons, List.not_mem_nil, or_false] at he
      subst he
      have z : (Sum.inl o : Key) = .inl m := by
        injection hk with _ b; injection b with _ b; injection b
      exact ⟨Sum.inl.inj z, n', rfl⟩
    | drop n' s' => simp only [effB, List.mem_cons, List.not_mem_nil, or_false] at he; subst he; cases hq
    | leave n hb => cases hb <;> simp only [effB, List.mem_cons, List.not_mem_nil, or_false] at he <;> (try rcases he with rfl | rfl) <;> (try subst he) <;> exact absurd hk (ks (by decide))
    | preempt n v w => cases w <;> simp only [effB, List.mem_cons, List.not_mem_nil, or_false] at he <;> (try rcases he with rfl | rfl) <;> (try subst he) <;> exact absurd hk (ks (by decide))
    | _ => simp only [effB, List.mem_cons, List.not_mem_nil, or_false] at he; subst he; exact absurd hk (ks (by decide))
/-- behind a snapshot that exists its namespace is not gone -/
theorem gone_before {rs : List Rc} {n m : Int} (asc : rs.Pairwise (fun x y => x.o < y.o)) (h : SnapEx rs n m) : ∀ g ∈ rowsF rs (goneK n), g.1 < m := by
  obtain ⟨x, hx, hq⟩ := snapEx_iff.mp h
  have hm := shown_mem hx
  obtain ⟨r, hr, e1, e, he, hk, e2⟩ := rowsF_of2 hm
  obtain ⟨ro, n', rb⟩ := snap_eff e he hk (by rw [e2]; exact hq)
  have xm : x.1 = m := e1.trans ro
  have hid : hidF rs (snapK n m) x.1 (presentO rs) = false := by
    unfold lastShown at hx
    split at hx
    · cases hx
    · rename_i y hy
      split at hx
      · cases hx
      · rename_i c; cases hx
        simpa using c
  intro g hg
  obtain ⟨q, hq', gq, _⟩ := rowsF_of hg
  obtain ⟨q2, hq2, gq2, ge⟩ := rowsF_of hg
  have lt := present_lt asc q hq'
  rcases Int.lt_trichotomy g.1 m with z | z | z
  · exact z
  · have : q2 = r := asc_inj asc q2 hq2 r hr (by rw [← gq2, z, ro])
    rw [this] at ge
    have := hasK_gone.mp ge
    rw [rb] at this; cases this
  · have : hidF rs (snapK n m) x.1 (presentO rs) = true := by
      unfold hidF
      rw [if_neg (by show ¬ strIn "snap" ["host", "told"] = true; decide)]
      refine List.any_eq_true.mpr ⟨g, hg, ?_⟩
      rw [decide_eq_true (by omega), decide_eq_true (by omega)]; rfl
    rw [hid] at this; cases this
section
variable {A B : List Rc}
structure Kept (A B : List Rc) : Prop where
  asc : A.Pairwise (fun x y => x.o < y.o)
  sub : B.Sublist A
  live : ∀ r ∈ A, (∃ k, rowsF A k ≠ [] ∧ LiveO A k r.o) → r ∈ B
open Classical in
theorem Kept.filt (h : Kept A B) : B = A.filter fun r => decide (∃ q ∈ B, q.o = r.o) := by
  refine asc_uniq (h.asc.sublist h.sub) (h.asc.sublist List.filter_sublist) fun r => ?_
  rw [List.mem_filter, decide_eq_true_iff]
  constructor
  · intro hr; exact ⟨h.sub.subset hr, r, hr, rfl⟩
  · rintro ⟨hr, q, hq, e⟩
    rw [← asc_inj h.asc q (h.sub.subset hq) r hr e]; exact hq
open Classical in
theorem Kept.rows (h : Kept A B) (k : List Key) : rowsF B k = (rowsF A k).filter fun x => decide (∃ q ∈ B, q.o = x.1) := by
  have e := h.filt
  conv => lhs; rw [e]
  exact rowsF_filter (p := fun o => decide (∃ q ∈ B, q.o = o))
theorem Kept.ascB (h : Kept A B) : B.Pairwise (fun x y => x.o < y.o) := h.asc.sublist h.sub
theorem Kept.mem (h : Kept A B) {k : List Key} {x : Rw} : x ∈ rowsF B k ↔ x ∈ rowsF A k ∧ ∃ q ∈ B, q.o = x.1 := by
  rw [h.rows, List.mem_filter]
  exact and_congr_right fun _ => decide_eq_true_iff
/-- the live one of a topic is kept -/
theorem Kept.inB (h : Kept A B) {k : List Key} {x : Rw} (hx : x ∈ rowsF A k) {k' : List Key} (h1 : rowsF A k' ≠ []) (h2 : LiveO A k' x.1) : ∃ q ∈ B, q.o = x.1 := by
  obtain ⟨r, hr, e, _⟩ := rowsF_of hx
  exact ⟨r, h.live r hr ⟨k', h1, by rw [← e]; exact h2⟩, e.symm⟩
theorem last_filter {α : Type} {p : α → Bool} {xs : List α} {x : α} (hp : p x = true) : ((xs ++ [x]).filter p).getLast? = some x := by
  rw [List.filter_append, List.filter_cons, hp, if_pos rfl, List.filter_nil, List.getLast?_concat]
theorem Kept.value (h : Kept A B) {k : List Key} {mA mB : Int} (h1 : word k ≠ "host") (h2 : word k ≠ "gone") (hm : ∀ r ∈ B, decide (r.o < mB) = decide (r.o < mA)) (hv : ViewN A k mA) (hg : ∀ g ∈ rowsF A (goneK (spaceK k)), g.1 < mA) : progV B k mB = progV A k mA := by
  have asc := h.asc
  have ra := rowsF_asc (k := k) asc
  obtain ⟨FA, hFA⟩ : ∃ F, F = (rowsF A k).filter fun x => decide (x.1 < mA) := ⟨_, rfl⟩
  obtain ⟨FB, hFB⟩ : ∃ F, F = (rowsF B k).filter fun x => decide (x.1 < mB) := ⟨_, rfl⟩
  have mB' : ∀ x ∈ rowsF B k, decide (x.1 < mB) = decide (x.1 < mA) := fun x hx => by
    obtain ⟨r, hr, e, _⟩ := rowsF_of hx
    rw [e]; exact hm r hr
  have memB : ∀ x, x ∈ FB ↔ x ∈ FA ∧ ∃ q ∈ B, q.o = x.1 := fun x => by
    rw [hFB, hFA, List.mem_filter, List.mem_filter]
    constructor
    · rintro ⟨a, b⟩
      obtain ⟨c, d⟩ := h.mem.mp a
      exact ⟨⟨c, by rw [← mB' x a]; exact b⟩, d⟩
    · rintro ⟨⟨a, b⟩, c⟩
      have z := h.mem.mpr ⟨a, c⟩
      exact ⟨z, by rw [mB' x z]; exact b⟩
  have ascFA : FA.Pairwise (fun x y => x.1 < y.1) := by rw [hFA]; exact ra.sublist List.filter_sublist
  have ascFB : FB.Pairwise (fun x y => x.1 < y.1) := by rw [hFB]; exact (rowsF_asc h.ascB).sublist List.filter_sublist
  have pA : progV A k mA = match FA.getLast? with
    | none => .none
    | some x => if hidF A k x.1 mA = true then .none else x.2 := by
    unfold progV lastShown
    rw [← hFA]
    cases FA.getLast? with
    | none => rfl
    | some x => dsimp only; cases hidF A k x.1 mA <;> rfl
  have pB : progV B k mB = match FB.getLast? with
    | none => .none
    | some x => if hidF B k x.1 mB = true then .none else x.2 := by
    unfold progV lastShown
    rw [← hFB]
    cases FB.getLast? with
    | none => rfl
    | some x => dsimp only; cases hidF B k x.1 mB <;> rfl
  rcases List.eq_nil_or_concat FA with e | ⟨xs, x, e⟩
  · have eB : FB = [] := List.eq_nil_iff_forall_not_mem.mpr fun y hy => by
      have := (memB y).mp hy
      rw [e] at this; cases this.1
    rw [pA, pB, e, eB]; rfl
  · rw [List.concat_eq_append] at e
    have xA : x ∈ FA := by rw [e]; simp
    have xr : x ∈ rowsF A k := by rw [hFA] at xA; exact (List.mem_filter.mp xA).1
    have xlt : x.1 < mA := by rw [hFA] at xA; exact of_decide_eq_true (List.mem_filter.mp xA).2
    have lA : FA.getLast? = some x := by rw [e]; exact List.getLast?_concat
    have ylex : ∀ y ∈ FA, y.1 ≤ x.1 := fun y hy => by
      rw [e] at hy ascFA
      exact asc_last ascFA y hy
    have hne : rowsF A k ≠ [] := List.ne_nil_of_mem xr
    rw [pA, pB, lA]
    dsimp only
    cases hh : hidF A k x.1 mA with
    | true =>
      rw [if_pos rfl]
      cases hl : FB.getLast? with
      | none => rfl
      | some y =>
        dsimp only
        have yB := List.mem_of_getLast? hl
        have yx := ylex y ((memB y).mp yB).1
        have hht : strIn (word k) ["host", "told"] = false := by
          cases c : strIn (word k) ["host", "told"] with
          | false => rfl
          | true => unfold hidF at hh; rw [c, if_pos rfl] at hh; cases hh
        have hh' := hh
        unfold hidF at hh'
        rw [hht, if_neg Bool.false_ne_true] at hh'
        obtain ⟨g, hg', hgx⟩ := List.any_eq_true.mp hh'
        rw [Bool.and_eq_true, decide_eq_true_iff, decide_eq_true_iff] at hgx
        rcases List.eq_nil_or_concat (rowsF A (goneK (spaceK k))) with z | ⟨gs, gl, z⟩
        · rw [z] at hg'; cases hg'
        · rw [List.concat_eq_append] at z
          have glm : gl ∈ rowsF A (goneK (spaceK k)) := by rw [z]; simp
          have ga := rowsF_asc (k := goneK (spaceK k)) asc
          have gle : g.1 ≤ gl.1 := by
            rw [z] at hg' ga
            exact asc_last ga g hg'
          have gll : lastF A (goneK (spaceK k)) = gl.1 := by unfold lastF; rw [z, List.getLast?_concat]
          have ⟨kw, kn, kr, ek⟩ := (topF_form hne).1
          have nt : word k ≠ "told" := fun c => by rw [c] at hht; exact absurd hht (by decide)
          have beg : ∃ b, begO A (spaceK k) = some b ∧ b < gl.1 := by
            obtain ⟨r, hr, er, ef, hef, hek⟩ := rowsF_of xr
            refine (begO_lt asc).mpr ⟨r, hr, by omega, ?_⟩
            have hk2 : ef.1 = .inr kw :: .inl kn :: kr := hek.trans ek
            have w1 : word k = kw := by rw [ek]; rfl
            have w2 : spaceK k = kn := by rw [ek]; rfl
            rw [w2]
            exact member_of hef hk2 (by rw [← w1]; exact h1) (by rw [← w1]; exact nt)
          have liveg : LiveO A (goneK (spaceK k)) gl.1 := by
            unfold LiveO
            rw [if_neg (show ¬ word (goneK (spaceK k)) = "host" by show ¬ ("gone" : Str) = "host"; decide), if_pos (show word (goneK (spaceK k)) = "gone" from rfl)]
            exact ⟨gll.symm, beg⟩
          obtain ⟨q, hq, eq⟩ := h.inB glm (List.ne_nil_of_mem glm) liveg
          have hgB : gl ∈ rowsF B (goneK (spaceK k)) := h.mem.mpr ⟨glm, q, hq, eq⟩
          have hgm := hg gl glm
          have : hidF B k y.1 mB = true := by
            unfold hidF
            rw [hht, if_neg Bool.false_ne_true]
            refine List.any_eq_true.mpr ⟨gl, hgB, ?_⟩
            have e2 := hm q hq
            rw [eq, decide_eq_true hgm] at e2
            rw [e2, decide_eq_true (show y.1 < gl.1 by omega)]; rfl
          rw [this, if_pos rfl]
    | false =>
      rw [if_neg Bool.false_ne_true]
      have ls : lastShown A k mA = some x := by
        unfold lastShown
        rw [← hFA, lA]
        dsimp only
        rw [hh, if_neg Bool.false_ne_true]
      by_cases c : noneQ x.2 = false ∨ x.1 ≠ firstO A k
      · have lv : LiveO A k x.1 := by
          unfold LiveO
          rw [if_neg h1, if_neg h2]
          exact ⟨mA, hv, x, ls, rfl, c⟩
        have xB := (memB x).mpr ⟨xA, h.inB xr hne lv⟩
        have lB : FB.getLast? = some x := by
          rcases List.eq_nil_or_concat FB with z | ⟨ys, y, z⟩
          · rw [z] at xB; cases xB
          · rw [List.concat_eq_append] at z
            have yB : y ∈ FB := by rw [z]; simp
            have h3 := ylex y ((memB y).mp yB).1
            rw [z] at xB ascFB
            have h4 := asc_last ascFB x xB
            rcases List.mem_append.mp xB with w | w
            · rw [List.pairwise_append] at ascFB
              have := ascFB.2.2 x w y (by simp)
              omega
            · rw [z, List.getLast?_concat, List.mem_singleton.mp w]
        rw [lB]
        dsimp only
        have : hidF B k x.1 mB = false := by
          cases c2 : hidF B k x.1 mB with
          | false => rfl
          | true =>
            have : hidF A k x.1 mA = true := by
              unfold hidF at c2 ⊢
              split at c2
              · cases c2
              · rename_i c3
                rw [if_neg c3]
                obtain ⟨g, hg1, hg2⟩ := List.any_eq_true.mp c2
                rw [Bool.and_eq_true] at hg2
                obtain ⟨r, hr, er, _⟩ := rowsF_of hg1
                refine List.any_eq_true.mpr ⟨g, (h.mem.mp hg1).1, ?_⟩
                have z := hm r hr
                rw [← er, hg2.2] at z
                rw [hg2.1, ← z]; rfl
            rw [hh] at this; cases this
        rw [this, if_neg Bool.false_ne_true]
      · have c1 : noneQ x.2 = true := by
          cases hq : noneQ x.2 with
          | true => rfl
          | false => exact absurd (.inl hq) c
        have c2 : x.1 = firstO A k := Classical.byContradiction fun z => c (.inr z)
        have x2 : x.2 = .none := by
          generalize x.2 = d at c1
          cases d <;> first | rfl | cases c1
        have one := (one_first (k := k) (m := mA) (x := x) asc (by rw [← hFA]; exact lA)).mpr c2
        rw [← hFA, e, List.length_append, List.length_singleton] at one
        have xs0 : xs = [] := List.length_eq_zero_iff.mp (by omega)
        rw [xs0] at e
        rw [x2]
        cases hl : FB.getLast? with
        | none => rfl
        | some y =>
          dsimp only
          have yB := ((memB y).mp (List.mem_of_getLast? hl)).1
          rw [e] at yB
          have : y = x := by simpa using yB
          rw [this, x2]
          split <;> rfl
theorem Kept.now (h : Kept A B) {k : List Key} (h1 : word k ≠ "host") (h2 : word k ≠ "gone") : progV B k (presentO B) = progV A k (presentO A) :=
  h.value h1 h2 (fun r hr => by rw [decide_eq_true (present_lt h.ascB r hr), decide_eq_true (present_lt h.asc r (h.sub.subset hr))]) (.inl rfl) (fun g hg => by
    obtain ⟨r, hr, e, _⟩ := rowsF_of hg
    rw [e]; exact present_lt h.asc r hr)
theorem snap_prog {rs : List Rc} {n m : Int} : SnapEx rs n m ↔ noneQ (progV rs (snapK n m) (presentO rs)) = false := by
  rw [snapEx_iff]
  unfold progV
  cases lastShown rs (snapK n m) (presentO rs) with
  | none => simp [noneQ]
  | some x => simp
theorem Kept.snaps (h : Kept A B) {n m : Int} : SnapEx B n m ↔ SnapEx A n m := by
  rw [snap_prog, snap_prog, h.now (by show ¬ ("snap" : Str) = "host"; decide) (by show ¬ ("snap" : Str) = "gone"; decide)]
theorem Kept.then_ (h : Kept A B) {k : List Key} {m : Int} (hw : word k = "place") (hs : SnapEx A (spaceK k) m) : progV B k m = progV A k m :=
  h.value (by rw [hw]; decide) (by rw [hw]; decide) (fun _ _ => rfl) (.inr ⟨hw, hs⟩) (gone_before h.asc hs)
end
theorem kept_of {A B : List Rc} (asc : A.Pairwise (fun x y => x.o < y.o)) (sub : B.Sublist A) (h : ∀ r ∈ progL A, r ∈ B) : Kept A B :=
  ⟨asc, sub, fun r hr hl => h r (List.mem_filter.mpr ⟨hr, @decide_eq_true _ (Classical.propDecidable _) hl⟩)⟩
/-- B says of every topic and view what A says -/
structure Says (A B : List Rc) : Prop where
  now : ∀ k, word k ≠ "host" → word k ≠ "gone" → progV B k (presentO B) = progV A k (presentO A)
  then_ : ∀ k m, word k = "place" → SnapEx A (spaceK k) m → progV B k m = progV A k m
  snaps : ∀ n m, SnapEx B n m ↔ SnapEx A n m
theorem Says.refl (A : List Rc) : Says A A := ⟨fun _ _ _ => rfl, fun _ _ _ _ => rfl, fun _ _ => Iff.rfl⟩
theorem Says.step {A B C : List Rc} (h : Says A B) (g : Kept B C) : Says A C :=
  ⟨fun k h1 h2 => (g.now h1 h2).trans (h.now k h1 h2), fun k m hw hs => (g.then_ hw ((h.snaps _ _).mpr hs)).trans (h.then_ k m hw hs), fun n m => g.snaps.trans (h.snaps n m)⟩
end Sg

set_option Elab.async false
set_option linter.all false
set_option maxRecDepth 100000
set_option maxHeartbeats 4000000
namespace Sg
open PySem PySem.Spec PyProof.Rows L2
/-! ### the law's value of a topic in a view -/
theorem inW_all {rs : List Rc} {s n : Int} (h : ∀ r ∈ rs, r.o < n) : inW rs (some (s, n)) = rs := List.filter_eq_self.mpr fun r hr => decide_eq_true (h r hr)
theorem inW_take {rs : List Rc} {s n : Int} {i : Nat} {r : Rc} (asc : rs.Pairwise (fun x y => x.o < y.o)) (h : ∀ r ∈ rs.take i, r.o < n) (hr : rs[i]? = some r) (hn : n ≤ r.o) : inW rs (some (s, n)) = rs.take i := by
  have hil := (List.getElem?_eq_some_iff.mp hr).1
  have e : rs = rs.take i ++ r :: rs.drop (i + 1) := by
    have e1 : rs.drop i = r :: rs.drop (i + 1) := by
      rw [List.drop_eq_getElem_cons hil, (List.getElem?_eq_some_iff.mp hr).2]
    rw [← e1, List.take_append_drop]
  have a2 := asc
  rw [e, List.pairwise_append, List.pairwise_cons] at a2
  have p1 : (rs.take i).filter (fun r => inView (some (s, n)) r.o) = rs.take i := List.filter_eq_self.mpr fun x hx => decide_eq_true (h x hx)
  have p2 : (r :: rs.drop (i + 1)).filter (fun r => inView (some (s, n)) r.o) = [] := List.filter_eq_nil_iff.mpr fun x hx => by
    have : n ≤ x.o := by
      rcases List.mem_cons.mp hx with z | z
      · rw [z]; exact hn
      · have := a2.2.1.1 x z; omega
    show ¬ decide (x.o < n) = true
    rw [decide_eq_false (by omega)]; simp
  unfold inW
  conv => lhs; rw [e]
  rw [List.filter_append, p1, p2, List.append_nil]
def spLValueS (K : PySem.W.Frag) : Sp := fun vs H Q _ => ∃ (a tt va : Addr) (sv nn : Int) (ts : List Addr) (rs : List Rc) (k : List Key), vs = [.ref a, .ref tt, .ref va] ∧ SqL K H a (ts.map V.ref) ∧ Paired (RecAt K H) ts rs ∧ rs.length ≤ 100 ∧ (∀ r ∈ rs, RGood r) ∧ rs.Pairwise (fun x y => x.o < y.o) ∧ TopAt K H tt k ∧ TForm k ∧ KOk k ∧ SqT K H va [.int sv, .int nn] ∧
  ∀ v H', Same H H' → Dp K H' v (valW rs k (some (sv, nn))) → Q v H'
section
variable {P : Program} {wd : World} {K : PySem.W.Frag} {mg : Str → Option Value} {base : Heap} {f fL : Addr} {fd fdL : FuncData}
theorem ok_lvalueS (F : Fun K "_law_value" "_law_value" sLValue f fd) (B : BN mg) (GL : Def P wd K mg base CX0 "_law_effects" 1 ["record"] (spEffB K) fL fdL) : FnOk P wd K mg base CX0 2 f fd ["records", "topic", "view"] (spLValueS K) := by
  refine F.ok scLValue (fun vs H Q E h => ?_) (fun cdv A outer s H vs Q E hr h => ?_)
  · obtain ⟨a, tt, va, sv, nn, ts, rs, k, rfl, _⟩ := h
    rfl
  · obtain ⟨a, tt, va, sv, nn, ts, rs, k, rfl, ha, hp, hn, hg, hpw, htt, ⟨kw, kn, kr, hk⟩, hko, hva, q⟩ := h
    have hww : word k = kw := by rw [hk]; rfl
    have hss : spaceK k = kn := by rw [hk]; rfl
    have htt' : SqT K H tt (V.str kw :: V.int kn :: kr.map kV) := by
      have z : SqT K H tt (k.map kV) := htt
      rw [hk] at z; exact z
    refine ⟨_, (pss_cons (ps_set (i := 3) scLValue.nd rfl (Or.inl rfl) pe_non)
      (pss_cons (ps_for PassesOwn.never rfl (pi_list (pe_callB (call_sortRc hr.units) (by rfl) B.sorted (by decide +kernel) (pa_cons (pv 0) pa_nil))) (pg_name (i := 4) scLValue.nd rfl (Or.inl rfl))
      (pss_cons (ps_if (PW.pt (pw_and (pt_cmpR op_notN (pv 2) pe_non (nomark _)) (pw_and1 (pt_cmpR op_ge (pe_ix ix_tup (pv 4) pe_int (fun _ _ => rfl)) (pe_ix ix_tup (pv 2) pe_int (fun _ _ => rfl)) (nomark _)))))
      (pss_one ps_break) pss_nil)
      (pss_one (ps_for PassesOwn.never rfl (pi_list (pe_call GL.ok hr (by rfl) GL.mg GL.kp GL.bd .nil pass0 (pa_cons (pv 4) pa_nil))) (pg_name (i := 5) scLValue.nd rfl (Or.inl rfl))
      (Evl.pss_cut (ps_if (pt_cmpR (op_eqD hr.units) (pe_ix ix_tup (pv 5) pe_int (fun _ _ => rfl)) (pv 1) (nomark _))
      (pss_one (ps_set (i := 3) scLValue.nd rfl (Or.inl rfl) (pe_ix ix_tup (pv 5) pe_int (fun _ _ => rfl)))) pss_nil)
      (pss_one (ps_if (PW.pt (pw_and (pt_cmpR (op_eqD hr.units) (pe_ix ix_tup (pv 5) pe_int (fun _ _ => rfl)) (pe_tup (pa_cons pe_str (pa_cons (pe_ix ix_tup (pv 1) pe_int (fun _ _ => rfl)) pa_nil))) (nomark _)) (pw_and1 (pt_cmpR op_notIn_seq (pe_ix ix_tup (pv 1) pe_int (fun _ _ => rfl)) (pe_tup (pa_cons pe_str (pa_cons pe_str pa_nil))) (by rfl)))))
      (pss_one (ps_set (i := 3) scLValue.nd rfl (Or.inl rfl) pe_non)) pss_nil)))))))
      (pss_one (ps_ret (pv 3))))), ?_⟩
    refine ⟨_, rfl, a, ts, rs, rfl, ha, hp, hg, hpw, fun sl hsl => ⟨sl, rfl, ⟨_, SqL.of upd_same⟩, ?_⟩⟩
    have s1 := same_new (o := .lst (ts.map V.ref)) hsl
    have h1 : (upd H sl (.lst (ts.map V.ref))) sl = some (.lst (ts.map V.ref)) := upd_same
    generalize upd H sl (.lst (ts.map V.ref)) = H1 at s1 h1
    have hlen := hp.length
    refine for_list (K := K) (a := sl) (xs := ts.map V.ref) (fun i σ' H' => ∃ (v : V) (v4 v5 : Option V), σ' = [some (.ref a), some (.ref tt), some (.ref va), some v, v4, v5] ∧ Same H1 H' ∧ Dp K H' v (valL (rs.take i) k) ∧ ∀ r ∈ rs.take i, r.o < nn)
      ⟨_, _, _, rfl, Same.refl H1, .non, fun r hr => by simp at hr⟩ (fun i σ' H' _ ⟨_, _, _, _, sm, _⟩ => SqL.of (sm _ _ h1)) ?_ ?_
    · rintro i x σ' H2 hx ⟨v, v4, v5, rfl, sm, dv, dlt⟩
      obtain ⟨t, hti, rfl⟩ := map_get hx
      obtain ⟨r, hri, hrt⟩ := paired_at hp hti
      have gr := hg r (List.mem_of_getElem? hri)
      have s12 := s1.trans sm
      have rt := hrt.same s12
      have tk : rs.take (i + 1) = rs.take i ++ [r] := by rw [List.take_add_one, hri]; rfl
      obtain ⟨ys0, hts0, _⟩ := id rt
      refine ⟨_, rfl, rfl, _, rfl, iteT ⟨_, rfl, t, _, _, _, rfl, rfl, hts0, atI_nat (j := 0) rfl, _, rfl, va, _, _, _, rfl, rfl, SqT_same s12 hva, atI_nat (j := 1) rfl, _, _, rfl, rfl, _, rfl, ?_⟩⟩
      by_cases cge : nn ≤ r.o
      · rw [decide_eq_true cge]
        refine iteT ⟨_, rfl, q v H2 s12 ?_⟩
        unfold valW
        rw [inW_take hpw dlt hri cge]; exact dv
      rw [decide_eq_false cge]
      refine iteF ⟨_, rfl, t, r, rfl, rt, fun l es H3 s3 hl hl3 pe => ⟨l, rfl, ⟨_, SqL.of hl3⟩, ?_⟩⟩
      have ge := effB_t gr
      have gg := effB_g gr
      have pt : tupO (valL (rs.take i) k) = true := valF_t rfl fun e he => by
        obtain ⟨l', hl', he'⟩ := List.mem_flatten.mp he
        obtain ⟨r', hr', rfl⟩ := List.mem_map.mp hl'
        exact effB_t (hg r' (List.mem_of_mem_take hr')) e he'
      refine for_list (K := K) (a := l) (xs := es.map V.ref) (fun m σ' H' => ∃ (v : V) (v5 : Option V), σ' = [some (.ref a), some (.ref tt), some (.ref va), some v, some (.ref t), v5] ∧ Same H3 H' ∧ Dp K H' v (((effB r.o r.h r.b).take m).foldl (valStep k) (valL (rs.take i) k)))
        ⟨v, v5, rfl, Same.refl H3, by rw [List.take_zero]; exact dp_same s3 _ _ dv⟩ (fun m σ' H' _ ⟨_, _, _, sm', _⟩ => SqL.of (sm' _ _ hl3)) ?_ ?_
      · rintro m x σ' H4 hx ⟨v, v5, rfl, s4, dv4⟩
        obtain ⟨e, hei, rfl⟩ := map_get hx
        obtain ⟨ef, hefi, he⟩ := paired_at pe hei
        have hefm := List.mem_of_getElem? hefi
        have tk4 : (effB r.o r.h r.b).take (m + 1) = (effB r.o r.h r.b).take m ++ [ef] := by rw [List.take_add_one, hefi]; rfl
        obtain ⟨pv0, hpv⟩ : ∃ p, p = ((effB r.o r.h r.b).take m).foldl (valStep k) (valL (rs.take i) k) := ⟨_, rfl⟩
        rw [← hpv] at dv4
        obtain ⟨t1, v1, a1, a2, a3⟩ := he.same s4
        have s14 := (s12.trans s3).trans s4
        have d1 : Dp K H4 (.ref t1) (topD ef.1) := TopAt.dp (SqT.of a2)
        have d2 : Dp K H4 (.ref tt) (topD k) := TopAt.dp (SqT_same s14 htt)
        have fold1 : ∀ (H' : Hp) (v' : V), Same H4 H' → Dp K H' v' (valStep k pv0 ef) → ∃ (v : V) (v5 : Option V), [some (.ref a), some (.ref tt), some (.ref va), some v', some (.ref t), some (.ref e)] = [some (.ref a), some (.ref tt), some (.ref va), some v, some (.ref t), v5] ∧ Same H3 H' ∧ Dp K H' v (((effB r.o r.h r.b).take (m + 1)).foldl (valStep k) (valL (rs.take i) k)) :=
          fun H' v' s' d => ⟨v', _, rfl, s4.trans s', by rw [tk4, List.foldl_append, ← hpv]; exact d⟩
        refine ⟨fun σ H' => ∃ v', σ = [some (.ref a), some (.ref tt), some (.ref va), some v', some (.ref t), some (.ref e)] ∧ H' = H4 ∧ Dp K H4 v' (if ef.1 = k then ef.2 else pv0), ?_, ?_⟩
        · refine ⟨_, rfl, e, _, _, _, rfl, rfl, SqT.of a1, atI_nat (j := 0) rfl, _, rfl, _, _, d1, d2, (topD_g (effB_k _ hefm)).sh (by decide), (topD_g hko).sh (by decide), _, rfl, ?_⟩
          rw [topD_eqv]
          by_cases c : ef.1 = k
          · rw [decide_eq_true c]
            exact iteT ⟨_, rfl, e, _, _, _, rfl, rfl, SqT.of a1, atI_nat (j := 1) rfl, v1, rfl, rfl, by rw [if_pos c]; exact a3⟩
          · rw [decide_eq_false c]
            exact iteF ⟨v, rfl, rfl, by rw [if_neg c]; exact dv4⟩
        · rintro σ H' ⟨v', rfl, rfl, dv'⟩
          have tup' : tupO (if ef.1 = k then ef.2 else pv0) = true := by
            split
            · exact ge _ hefm
            · rw [hpv]; exact valF_t pt fun x hx => ge x (List.mem_of_mem_take hx)
          refine ⟨_, rfl, e, _, _, _, rfl, rfl, SqT.of a1, atI_nat (j := 0) rfl, _, rfl, tt, _, _, _, rfl, rfl, SqT_same s14 htt', atI_nat (j := 1) rfl, by show 2 ≤ sizeLine; decide, fun gt hgt => ?_⟩
          have s5 := same_new (o := .tup [.str "gone", .int kn]) hgt
          have hg5 : (upd H' gt (.tup [.str "gone", .int kn])) gt = some (.tup [.str "gone", .int kn]) := upd_same
          generalize upd H' gt (.tup [.str "gone", .int kn]) = H5 at s5 hg5
          have d3 : Dp K H5 (.ref gt) (topD (goneK kn)) := TopAt.dp (SqT.of hg5)
          refine ⟨_, _, dp_same s5 _ _ d1, d3, (topD_g (effB_k _ hefm)).sh (by decide), (topD_g goneK_ok).sh (by decide), _, rfl, ?_⟩
          rw [topD_eqv]
          by_cases c : ef.1 = goneK kn
          · rw [decide_eq_true c]
            refine iteT ⟨_, rfl, tt, _, _, _, rfl, rfl, SqT_same (s14.trans s5) htt', atI_nat (j := 0) rfl, by show 2 ≤ sizeLine; decide, fun nt hnt => ?_⟩
            have s6 := same_new (o := .tup [.str "gone", .str "told"]) hnt
            have hn6 : (upd H5 nt (.tup [.str "gone", .str "told"])) nt = some (.tup ((["gone", "told"] : List Str).map V.str)) := upd_same
            refine ⟨nt, _, rfl, .inr (SqT.of hn6), rfl, flat_strs, _, rfl, ?_⟩
            rw [inV_str]
            generalize upd H5 nt (.tup [.str "gone", .str "told"]) = H6 at s6
            have s56 := s5.trans s6
            by_cases cw : kw = "gone" ∨ kw = "told"
            · rw [show strIn kw ["gone", "told"] = true by
                unfold strIn
                rcases cw with z | z
                · rw [z]; rfl
                · rw [z]; rfl]
              refine iteF (fold1 H6 v' s56 ?_)
              unfold valStep
              rw [if_neg (fun z => by rw [hww] at z; exact cw.elim z.2.1 z.2.2)]
              exact dp_same s56 _ _ dv'
            · have c1 : ¬ kw = "gone" := fun z => cw (.inl z)
              have c2 : ¬ kw = "told" := fun z => cw (.inr z)
              rw [show strIn kw ["gone", "told"] = false by
                unfold strIn
                rw [List.any_cons, List.any_cons, decide_eq_false (fun z => c1 z.symm), decide_eq_false (fun z => c2 z.symm)]; rfl]
              refine iteT (fold1 H6 .non s56 ?_)
              unfold valStep
              rw [if_pos ⟨by rw [hss]; exact c, by rw [hww]; exact c1, by rw [hww]; exact c2⟩]
              exact .non
          · rw [decide_eq_false c]
            refine iteF (fold1 H5 v' s5 ?_)
            unfold valStep
            rw [if_neg (fun z => by rw [hss] at z; exact c z.1)]
            exact dp_same s5 _ _ dv'
      · rintro σ' H4 ⟨v, v5, rfl, s4, dv4⟩
        have e3 := pe.length
        rw [List.length_map, e3, List.take_length] at dv4
        refine ⟨v, _, _, rfl, (sm.trans s3).trans s4, ?_, fun x hx => ?_⟩
        · rw [tk]
          unfold valL
          rw [effsL_snoc, List.foldl_append]
          exact dv4
        · rw [tk] at hx
          rcases List.mem_append.mp hx with hx | hx
          · exact dlt x hx
          · rw [List.mem_singleton.mp hx]; omega
    · rintro σ' H2 ⟨v, v4, v5, rfl, sm, dv, dlt⟩
      rw [List.length_map, show ts.length = rs.length from hlen, List.take_length] at dv dlt
      refine ⟨_, rfl, q v H2 (s1.trans sm) ?_⟩
      unfold valW
      rw [inW_all dlt]; exact dv
end
end Sg

set_option Elab.async false
set_option linter.all false
set_option maxRecDepth 100000
set_option maxHeartbeats 4000000
namespace Sg
open PySem PySem.Spec PyProof.Rows L2
/-! ### reading a value, the snapshots -/
theorem ps_never {X : Cx} {st : Stmt} : PS X st (fun _ _ _ => False) := ⟨fun _ _ _ _ _ _ h => h.elim⟩
theorem kit1 {K : PySem.W.Frag} : PySem.W.kitOne K (.type "int") (.type "int") = some true := kit_ty (by decide +kernel)
theorem kit2 {K : PySem.W.Frag} : PySem.W.kitOne K (.type "int") (.type "bool") = some false := kit_ty (by decide +kernel)
def spWhole : Sp := fun vs H Q _ => ∃ i : Int, vs = [.int i] ∧ Q (.bl true) H
def viewN (rs : List Rc) : Vw → Int
  | none => presentO rs
  | some (_, m) => m
theorem viewN_same {rs : List Rc} (asc : rs.Pairwise (fun x y => x.o < y.o)) : ∀ w, SameV rs (viewN rs w) w
  | none => sameV_now asc
  | some (_, _) => sameV_at
def spNumOf (K : PySem.W.Frag) (C : Addr) : Sp := fun vs H Q _ => ∃ (p va : Addr) (rs : List Rc) (n m : Int), vs = [.ref p, .ref va] ∧ RA K C H p rs ∧ SqT K H va [.int n, .int m] ∧ SnapEx rs n m ∧ ∀ H', Same H H' → Q (.int m) H'
def RecsAt (K : PySem.W.Frag) (H : Hp) (a : Addr) (ts : List Addr) (rs : List Rc) : Prop := SqL K H a (ts.map V.ref) ∧ Paired (RecAt K H) ts rs ∧ rs.length ≤ 100 ∧ (∀ r ∈ rs, RGood r) ∧ rs.Pairwise (fun x y => x.o < y.o)
def ViewOk (K : PySem.W.Frag) (H : Hp) (rs : List Rc) (v : V) (w : Vw) : Prop := ViewAt K H v w ∧ ∀ n m, w = some (n, m) → SnapEx rs n m
def spValueAt (K : PySem.W.Frag) : Sp := fun vs H Q _ => ∃ (a tt : Addr) (v : V) (ts : List Addr) (rs : List Rc) (k : List Key) (w : Vw), vs = [.ref a, .ref tt, v] ∧ RecsAt K H a ts rs ∧ KeyAt H tt k ∧ TForm k ∧ ViewOk K H rs v w ∧
  ∀ x H', Same H H' → Dp K H' x (progV rs k (viewN rs w)) → Q x H'
def spSnapsOf (K : PySem.W.Frag) : Sp := fun vs H Q _ => ∃ (a : Addr) (ts : List Addr) (rs : List Rc) (n : Int), vs = [.ref a, .int n] ∧ RecsAt K H a ts rs ∧
  ∀ (l : Addr) (zs : List Int) (H' : Hp), Same H H' → H' l = some (.lst (zs.map V.int)) → (∀ m, m ∈ zs ↔ SnapEx rs n m) → zs.length ≤ 400 → zs.Pairwise (· ≤ ·) → zs.Nodup → Q (.ref l) H'
section
variable {P : Program} {wd : World} {K : PySem.W.Frag} {mg : Str → Option Value} {base : Heap} {f fW fS fL fI fN C : Addr} {fd fdW fdS fdL fdI fdN : FuncData}
theorem scWhole : FnScope ["value"] ["value"] (defScope sWhole) := ⟨rfl, rfl, rfl, by decide +kernel, rfl, by decide +kernel, by decide +kernel⟩
theorem ok_whole (F : Fun K "is_whole" "is_whole" sWhole f fd) (B : BN mg) : FnOk P wd K mg base CX0 1 f fd ["value"] spWhole := by
  refine F.ok scWhole (fun vs H Q E h => ?_) (fun cdv A outer s H vs Q E hr h => ?_)
  · obtain ⟨i, rfl, _⟩ := h
    rfl
  · obtain ⟨i, rfl, q⟩ := h
    refine ⟨_, (pss_one (ps_ret (pe_and (pe_callB call_isi (by rfl) B.isi boot_isi (pa_cons (pv 0) (pa_cons (pe_bltn (v := .ty "int") (by rfl) B.int boot_int rfl) pa_nil))) (pe_one (pe_not (pe_callB call_isi (by rfl) B.isi boot_isi (pa_cons (pv 0) (pa_cons (pe_bltn (v := .ty "bool") (by rfl) B.bool boot_bool rfl) pa_nil)))))))), ?_⟩
    exact ⟨_, rfl, _, _, _, _, true, rfl, .ty "int", .base (.int i), kit1, true, rfl, iteT ⟨_, rfl, _, _, _, _, false, rfl, .ty "bool", .base (.int i), kit2, false, rfl, q⟩⟩
theorem scNumOf : FnScope ["rows", "snapshot", "namespace", "number"] ["rows", "snapshot"] (defScope sNumberOf) := ⟨rfl, rfl, rfl, by decide +kernel, rfl, by decide +kernel, by decide +kernel⟩
theorem ok_numOf (F : Fun K "_number_of" "_number_of" sNumberOf f fd) (T : CT K mg C) (GW : Def P wd K mg base CX0 "is_whole" 1 ["value"] spWhole fW fdW) (MS : Mth P wd K mg base CX0 C "snapshots" 1 ["self", "namespace"] (spSnaps K C) fS fdS) : FnOk P wd K mg base CX0 2 f fd ["rows", "snapshot"] (spNumOf K C) := by
  refine F.ok scNumOf (fun vs H Q E h => ?_) (fun cdv A outer s H vs Q E hr h => ?_)
  · obtain ⟨p, va, rs, n, m, rfl, _⟩ := h
    rfl
  · obtain ⟨p, va, rs, n, m, rfl, hra, hva, hs, q⟩ := h
    refine ⟨_, (pss_cons (ps_asg (pv 1) (pg_tup (by rfl) (pgs_cons (pg_name (i := 2) scNumOf.nd rfl (Or.inl rfl)) (pgs_cons (pg_name (i := 3) scNumOf.nd rfl (Or.inl rfl)) L2.pgs_nil))))
      (pss_cons (ps_if (PW.pt (pw_or (pt_not (pt_val (pe_call GW.ok hr (by rfl) GW.mg GW.kp GW.bd .nil pass0 (pa_cons (pv 2) pa_nil)))) (pw_or (pt_not (pt_val (pe_call GW.ok hr (by rfl) GW.mg GW.kp GW.bd .nil pass0 (pa_cons (pv 3) pa_nil)))) (pw_or1 (pt_cmpR op_notIn_seq (pv 3) (pe_meth (pv 0) T.cl MS.me MS.ok hr MS.bd .nil pass0 (pa_cons (pv 2) pa_nil)) (by rfl))))))
      (pss_one ps_never) pss_nil)
      (pss_one (ps_ret (pv 3))))), ?_⟩
    obtain ⟨dx, ol, ts, bt, bg, sn, kvs, bks, sks, hp, _⟩ := id hra
    refine ⟨_, rfl, va, _, rfl, hva, rfl, _, _, rfl, _, _, rfl, rfl, ?_⟩
    refine ⟨_, rfl, n, rfl, ⟨true, rfl, iteF ⟨_, rfl, m, rfl, ⟨true, rfl, iteF ?_⟩⟩⟩⟩
    refine ⟨_, rfl, _, rfl, p, _, _, rfl, hp, rf_no (by decide) (by decide) (by decide) (by decide) (by decide), _, rfl, p, rs, n, rfl, hra, fun l zs H1 s1 hl hm hz _ _ => ⟨l, _, rfl, .inl (SqL.of hl), rfl, flat_ints, _, rfl, ?_⟩⟩
    rw [inV_int, decide_eq_true ((hm m).mpr hs)]
    exact iteF ⟨_, rfl, q H1 s1⟩
theorem scValueAt : FnScope ["records", "topic", "snapshot", "rows", "row"] ["records", "topic", "snapshot"] (defScope sValueAt) := ⟨rfl, rfl, rfl, by decide +kernel, rfl, by decide +kernel, by decide +kernel⟩
theorem ok_valueAt (F : Fun K "value_at" "value_at" sValueAt f fd) (T : CT K mg C) (MK : Mk K C fI) (GI : FnOk P wd K mg base CX0 4 fI fdI ["self", "records"] (spRInit K C)) (bI : Binds K fdI ["self", "records"] []) (ML : Mth P wd K mg base CX0 C "last_shown" 2 ["self", "topic", "number"] (spLastShown K C) fL fdL) (GN : Def P wd K mg base CX0 "_number_of" 2 ["rows", "snapshot"] (spNumOf K C) fN fdN) : FnOk P wd K mg base CX0 6 f fd ["records", "topic", "snapshot"] (spValueAt K) := by
  refine F.ok scValueAt (fun vs H Q E h => ?_) (fun cdv A outer s H vs Q E hr h => ?_)
  · obtain ⟨a, tt, v, ts, rs, k, w, rfl, _⟩ := h
    rfl
  · obtain ⟨a, tt, v, ts, rs, k, w, rfl, ⟨ha, hpr, hn, hg, asc⟩, hk, hf, ⟨hv, hs⟩, q⟩ := h
    have hr2 : Room 2 _ := hr.mono (by decide)
    refine ⟨_, (pss_cons (ps_set (i := 3) scValueAt.nd rfl (Or.inl rfl) (pe_make MK GI hr (by rfl) T.gC bI .nil pass0 (pa_cons (pv 0) pa_nil)))
      (pss_cons (ps_set (i := 4) scValueAt.nd rfl (Or.inl rfl) (pe_meth (pv 3) T.cl ML.me ML.ok hr2 ML.bd .nil pass0 (pa_cons (pv 1) (pa_cons (pe_cut (pe_ifExp (pt_cmpR op_isN (pv 2) pe_non (nomark _)) (pe_fld (pv 3) rfl) (pe_call GN.ok hr2 (by rfl) GN.mg GN.kp GN.bd .nil pass0 (pa_cons (pv 3) (pa_cons (pv 2) pa_nil))))) pa_nil))))
      (pss_one (ps_ret (pe_ifExp (pt_cmpR op_isN (pv 4) pe_non (nomark _)) pe_non (pe_ix ix_tup (pv 4) pe_int (fun _ _ => rfl))))))), ?_⟩
    refine ⟨_, rfl, fun x dx hx hdx ndx => ?_⟩
    have s1 : Same H (upd (upd H dx (.own x)) x (.ins C dx [])) := fun b u e => by
      rw [upd_ne (ne_of_none e hx), upd_ne (ne_of_none e hdx)]; exact e
    refine ⟨x, a, dx, ts, rs, rfl, upd_same, s1.seq ha, Paired.imp2 (fun _ _ z => z.same s1) hpr, hn, hg, asc_inj asc, fun rs' H1 o1 hra asc' mem len => ⟨rfl, ?_⟩⟩
    obtain rfl : rs' = rs := asc_uniq asc' asc mem
    have s2 : Same H H1 := fun b u e => o1 _ _ (s1 _ _ e) (by simpa using ne_of_none e hx)
    obtain ⟨dx', ol, ts', bt, bg, sn, kvs0, bks, sks, hp, hrest⟩ := id hra
    refine ⟨_, rfl, x, _, _, rfl, hp, rf_no (by decide) (by decide) (by decide) (by decide) (by decide), _, rfl, ?_⟩
    refine ⟨fun y H' => y = .int (viewN rs' w) ∧ Same H1 H', ?_, ?_⟩
    · cases w with
      | none =>
        obtain rfl : v = .non := hv
        exact ⟨_, rfl, rfl, _, rfl, iteT ⟨_, rfl, x, C, _, _, _, rfl, hp, T.cl, T.k_pr, rf_pr, rfl, Same.refl H1⟩⟩
      | some nm =>
        obtain ⟨n, m⟩ := nm
        obtain ⟨va, rfl, hva⟩ := hv
        exact ⟨_, rfl, rfl, _, rfl, iteF ⟨_, rfl, _, rfl, x, va, rs', n, m, rfl, hra, SqT_same s2 hva, hs n m rfl, fun H' s' => ⟨rfl, s'⟩⟩⟩
    · rintro y H2 ⟨rfl, s12⟩
      refine ⟨x, tt, rs', k, _, rfl, hra.ro.same s12, s12 _ _ (s2 _ _ hk), hf, hn, fun z H3 s3 hz => ?_⟩
      have s03 := s2.trans (s12.trans s3)
      cases hl : lastShown rs' k (viewN rs' w) with
      | none =>
        rw [hl] at hz
        obtain rfl : z = .non := hz
        refine ⟨_, rfl, rfl, _, rfl, iteT ?_⟩
        exact q .non H3 s03 (by unfold progV; rw [hl]; exact .non)
      | some xx =>
        rw [hl] at hz
        obtain ⟨pr, rfl, v1, a1, a2⟩ := hz
        refine ⟨_, rfl, rfl, _, rfl, iteF ⟨_, rfl, pr, _, _, _, rfl, rfl, SqT.of a1, atI_nat (j := 1) rfl, ?_⟩⟩
        exact q v1 H3 s03 (by unfold progV; rw [hl]; exact a2)
theorem scSnapsOf : FnScope ["records", "namespace"] ["records", "namespace"] (defScope sSnapsOf) := ⟨rfl, rfl, rfl, by decide +kernel, rfl, by decide +kernel, by decide +kernel⟩
theorem ok_snapsOf (F : Fun K "snapshots_of" "snapshots_of" sSnapsOf f fd) (T : CT K mg C) (MK : Mk K C fI) (GI : FnOk P wd K mg base CX0 4 fI fdI ["self", "records"] (spRInit K C)) (bI : Binds K fdI ["self", "records"] []) (MS : Mth P wd K mg base CX0 C "snapshots" 1 ["self", "namespace"] (spSnaps K C) fS fdS) : FnOk P wd K mg base CX0 6 f fd ["records", "namespace"] (spSnapsOf K) := by
  refine F.ok scSnapsOf (fun vs H Q E h => ?_) (fun cdv A outer s H vs Q E hr h => ?_)
  · obtain ⟨a, ts, rs, n, rfl, _⟩ := h
    rfl
  · obtain ⟨a, ts, rs, n, rfl, ⟨ha, hpr, hn, hg, asc⟩, q⟩ := h
    have hr1 : Room 1 _ := hr.mono (by decide)
    refine ⟨_, (pss_one (ps_ret (pe_meth (pe_make MK GI hr (by rfl) T.gC bI .nil pass0 (pa_cons (pv 0) pa_nil)) T.cl MS.me MS.ok hr1 MS.bd .nil pass0 (pa_cons (pv 1) pa_nil)))), ?_⟩
    refine ⟨_, rfl, fun x dx hx hdx ndx => ?_⟩
    have s1 : Same H (upd (upd H dx (.own x)) x (.ins C dx [])) := fun b u e => by
      rw [upd_ne (ne_of_none e hx), upd_ne (ne_of_none e hdx)]; exact e
    refine ⟨x, a, dx, ts, rs, rfl, upd_same, s1.seq ha, Paired.imp2 (fun _ _ z => z.same s1) hpr, hn, hg, asc_inj asc, fun rs' H1 o1 hra asc' mem len => ⟨rfl, ?_⟩⟩
    obtain rfl : rs' = rs := asc_uniq asc' asc mem
    have s2 : Same H H1 := fun b u e => o1 _ _ (s1 _ _ e) (by simpa using ne_of_none e hx)
    obtain ⟨dx', ol, ts', bt, bg, sn, kvs0, bks, sks, hp, hrest⟩ := id hra
    exact ⟨x, _, _, rfl, hp, rf_no (by decide) (by decide) (by decide) (by decide) (by decide), _, rfl, x, rs', n, rfl, hra, fun l zs H2 s3 hl hm hz hs hd => q l zs H2 (s2.trans s3) hl hm hz hs hd⟩
end
end Sg

set_option Elab.async false
set_option linter.all false
set_option maxRecDepth 100000
set_option maxHeartbeats 4000000
namespace Sg
open PySem PySem.Spec PyProof.Rows L2
/-! ### all that is seen -/
def oneD (rs : List Rc) (k : List Key) (ws : List IP) : List PyData := progV rs k (viewN rs none) :: (ws.filter fun v => decide (word k = "place") && decide (spaceK k = v.1)).map fun v => progV rs k (viewN rs (some v))
def seenD (rs : List Rc) (ws : List IP) (ks : Tops) : List PyData := (ks.map fun k => oneD rs k ws).flatten
theorem seenD_snoc {rs : List Rc} {ws : List IP} {ks : Tops} {k : List Key} : seenD rs ws (ks ++ [k]) = seenD rs ws ks ++ oneD rs k ws := by
  unfold seenD
  rw [List.map_append, List.flatten_append]
  show _ ++ (oneD rs k ws ++ []) = _
  rw [List.append_nil]
theorem oneD_no {rs : List Rc} {ws : List IP} {k : List Key} {v : IP} (h : ¬ (word k = "place" ∧ spaceK k = v.1)) : oneD rs k (ws ++ [v]) = oneD rs k ws := by
  unfold oneD
  have e : (decide (word k = "place") && decide (spaceK k = v.1)) = false := by
    rw [Bool.and_eq_false_iff, decide_eq_false_iff_not, decide_eq_false_iff_not]
    rcases Classical.em (word k = "place") with c | c
    · exact .inr fun z => h ⟨c, z⟩
    · exact .inl c
  rw [List.filter_append, List.filter_cons, e, if_neg Bool.false_ne_true, List.filter_nil, List.append_nil]
theorem oneD_yes {rs : List Rc} {ws : List IP} {k : List Key} {v : IP} (h : word k = "place" ∧ spaceK k = v.1) : oneD rs k (ws ++ [v]) = oneD rs k ws ++ [progV rs k (viewN rs (some v))] := by
  unfold oneD
  rw [List.filter_append, List.filter_cons, decide_eq_true h.1, decide_eq_true h.2, Bool.and_self, if_pos rfl, List.filter_nil, List.map_append]; rfl
theorem progV_t {rs : List Rc} {k : List Key} {m : Int} (hg : ∀ r ∈ rs, RGood r) : tupO (progV rs k m) = true := by
  unfold progV
  cases h : lastShown rs k m with
  | none => rfl
  | some x => exact rowsF_t hg x (shown_mem h)
theorem tupOs_of : ∀ {ds : List PyData}, (∀ d ∈ ds, tupO d = true) → tupOs ds = true
  | [], _ => rfl
  | d :: ds, h => by
    show (tupO d && tupOs ds) = true
    rw [h d List.mem_cons_self, tupOs_of fun x hx => h x (List.mem_cons_of_mem _ hx)]; rfl
theorem tupOs_mem : ∀ {ds : List PyData}, tupOs ds = true → ∀ d ∈ ds, tupO d = true
  | d :: ds, h, x, hx => by
    have h' : (tupO d && tupOs ds) = true := h
    rw [Bool.and_eq_true] at h'
    rcases List.mem_cons.mp hx with rfl | hx
    · exact h'.1
    · exact tupOs_mem h'.2 x hx
theorem tupOs_app {ds es : List PyData} (a : tupOs ds = true) (b : tupOs es = true) : tupOs (ds ++ es) = true := tupOs_of fun d hd => by
  rcases List.mem_append.mp hd with h | h
  · exact tupOs_mem a d h
  · exact tupOs_mem b d h
theorem oneD_in {rs : List Rc} {k : List Key} {ws : List IP} : ∀ d ∈ oneD rs k ws, ∃ m, d = progV rs k m := by
  intro d hd
  rcases List.mem_cons.mp hd with h | h
  · exact ⟨_, h⟩
  · obtain ⟨v, _, e⟩ := List.mem_map.mp h
    exact ⟨_, e.symm⟩
theorem oneD_t {rs : List Rc} {k : List Key} {ws : List IP} (hg : ∀ r ∈ rs, RGood r) : tupOs (oneD rs k ws) = true := tupOs_of fun d hd => by
  obtain ⟨m, rfl⟩ := oneD_in d hd
  exact progV_t hg
theorem seenD_in {rs : List Rc} {ks : Tops} {ws : List IP} : ∀ d ∈ seenD rs ws ks, ∃ k ∈ ks, ∃ m, d = progV rs k m := by
  intro d hd
  obtain ⟨l, hl, hd⟩ := List.mem_flatten.mp hd
  obtain ⟨k, hk, rfl⟩ := List.mem_map.mp hl
  exact ⟨k, hk, oneD_in d hd⟩
theorem seenD_t {rs : List Rc} {ks : Tops} {ws : List IP} (hg : ∀ r ∈ rs, RGood r) : tupOs (seenD rs ws ks) = true := tupOs_of fun d hd => by
  obtain ⟨k, _, m, rfl⟩ := seenD_in d hd
  exact progV_t hg
theorem progV_g {rs : List Rc} {k : List Key} {m : Int} (hg : ∀ r ∈ rs, RGood r) (hw : word k ≠ "host") : GD 60 (progV rs k m) := by
  unfold progV
  cases h : lastShown rs k m with
  | none => exact gd_none
  | some x =>
    have := shown_mem h
    rw [rowsF_B hw] at this
    exact rowsL_g hg x this
theorem gd_list : ∀ {ds : List PyData}, (∀ d ∈ ds, GD 60 d) → PyData.canLayAll0 ds = true ∧ PyData.depthAll ds ≤ 60
  | [], _ => ⟨by simp [PyData.canLayAll0], by simp [PyData.depthAll]⟩
  | d :: ds, h => by
    obtain ⟨i1, i2⟩ := gd_list (ds := ds) fun x hx => h x (List.mem_cons_of_mem _ hx)
    have g := h d List.mem_cons_self
    refine ⟨by simp only [PyData.canLayAll0, i1, g.l, Bool.and_self], ?_⟩
    simp only [PyData.depthAll]
    exact Nat.max_le.mpr ⟨g.dp, i2⟩
theorem seenD_g {rs : List Rc} {ks : Tops} {ws : List IP} (hg : ∀ r ∈ rs, RGood r) (hw : ∀ k ∈ ks, word k ≠ "host") : PyData.canLayAll0 (seenD rs ws ks) = true ∧ PyData.depthAll (seenD rs ws ks) ≤ 60 := gd_list fun d hd => by
  obtain ⟨k, hk, m, rfl⟩ := seenD_in d hd
  exact progV_g hg (hw k hk)
theorem dpAll_snoc {K : PySem.W.Frag} {H : Hp} {x : V} {d : PyData} : ∀ {xs : List V} {ds : List PyData}, DpAll K H xs ds → Dp K H x d → DpAll K H (xs ++ [x]) (ds ++ [d])
  | _, _, .nil, h => .cons h .nil
  | _, _, .cons a b, h => .cons a (dpAll_snoc b h)
theorem recsAt_same {K : PySem.W.Frag} {H H' : Hp} {a : Addr} {ts : List Addr} {rs : List Rc} (h : RecsAt K H a ts rs) (s : Same H H') : RecsAt K H' a ts rs := by
  obtain ⟨h1, h2, h3⟩ := h
  exact ⟨s.seq h1, Paired.imp2 (fun _ _ z => z.same s) h2, h3⟩
theorem inW_none {rs : List Rc} : inW rs none = rs := List.filter_eq_self.mpr fun _ _ => rfl
theorem valL_prog {rs : List Rc} {k : List Key} (asc : rs.Pairwise (fun x y => x.o < y.o)) (h1 : word k ≠ "host") (h2 : word k ≠ "gone") : valL rs k = progV rs k (viewN rs none) := by
  have z := valW_eq (w := none) asc h1 h2 (viewN_same asc none)
  unfold valW at z
  rw [inW_none] at z
  exact z
def spSeen (K : PySem.W.Frag) : Sp := fun vs H Q _ => ∃ (a tl wl : Addr) (ts : List Addr) (rs : List Rc) (qs : List Addr) (ks : Tops) (vp : List Addr) (ws : List IP), vs = [.ref a, .ref tl, .ref wl] ∧ RecsAt K H a ts rs ∧ SqL K H tl (qs.map V.ref) ∧ Paired (KeyAt H) qs ks ∧ (∀ k ∈ ks, TForm k ∧ KOk k ∧ word k ≠ "host" ∧ word k ≠ "gone") ∧ SqL K H wl (vp.map V.ref) ∧ Paired (PairAt H) vp ws ∧ ks.length ≤ 200 ∧ ws.length ≤ 200 ∧ (∀ v ∈ ws, SnapEx rs v.1 v.2) ∧
  ∀ (l : Addr) (xs : List V) (H' : Hp), Same H H' → H l = Option.none → H' l = some (.lst xs) → DpAll K H' xs (seenD rs ws ks) → Q (.ref l) H'
def spLSnaps (K : PySem.W.Frag) : Sp := fun vs H Q _ => ∃ (a wl : Addr) (ts : List Addr) (rs : List Rc) (vp : List Addr) (ws : List IP), vs = [.ref a, .ref wl] ∧ RecsAt K H a ts rs ∧ SqL K H wl (vp.map V.ref) ∧ Paired (PairAt H) vp ws ∧ ws.length ≤ 200 ∧ ws.Nodup ∧ (∀ n m, (n, m) ∈ ws ↔ SnapEx rs n m) ∧ ∀ H', Same H H' → Q (.bl true) H'
section
variable {P : Program} {wd : World} {K : PySem.W.Frag} {mg : Str → Option Value} {base : Heap} {f fA fG fP : Addr} {fd fdA fdG fdP : FuncData}
theorem scSeen : FnScope ["records", "topics", "views", "rows", "topic", "view"] ["records", "topics", "views"] (defScope sLSeen) := ⟨rfl, rfl, rfl, by decide +kernel, rfl, by decide +kernel, by decide +kernel⟩
theorem ok_seen (F : Fun K "_law_seen" "_law_seen" sLSeen f fd) (GA : Def P wd K mg base CX0 "value_at" 6 ["records", "topic", "snapshot"] (spValueAt K) fA fdA) : FnOk P wd K mg base CX0 7 f fd ["records", "topics", "views"] (spSeen K) := by
  refine F.ok scSeen (fun vs H Q E h => ?_) (fun cdv A outer s H vs Q E hr h => ?_)
  · obtain ⟨a, tl, wl, ts, rs, qs, ks, vp, ws, rfl, _⟩ := h
    rfl
  · obtain ⟨a, tl, wl, ts, rs, qs, ks, vp, ws, rfl, hra, htl, hks, hkf, hwl, hvp, kl, wsl, hex, q⟩ := h
    obtain ⟨ha, hpr, hn, hg, asc⟩ := id hra
    refine ⟨_, (pss_cons (ps_set (i := 3) scSeen.nd rfl (Or.inl rfl) (pe_lst pa_nil))
      (pss_cons (ps_for PassesOwn.never rfl (pi_list (pv 1)) (pg_name (i := 4) scSeen.nd rfl (Or.inl rfl))
      (pss_cons (ps_expr (pe_bm PySem.F.plainAttrs_list PySem.F.slot_list_append PySem.F.type_list_append mt_append (pv 3) (pa_cons (pe_call GA.ok hr (by rfl) GA.mg GA.kp GA.bd .nil pass0 (pa_cons (pv 0) (pa_cons (pv 4) (pa_cons pe_non pa_nil)))) pa_nil)))
      (pss_one (ps_for PassesOwn.never rfl (pi_list (pv 2)) (pg_name (i := 5) scSeen.nd rfl (Or.inl rfl))
      (pss_one (ps_if (PW.pt (pw_and (pt_cmpR op_eq (pe_ix ix_tup (pv 4) pe_int (fun _ _ => rfl)) pe_str (nomark _)) (pw_and1 (pt_cmpR op_eq (pe_ix ix_tup (pv 4) pe_int (fun _ _ => rfl)) (pe_ix ix_tup (pv 5) pe_int (fun _ _ => rfl)) (nomark _)))))
      (pss_one (ps_expr (pe_bm PySem.F.plainAttrs_list PySem.F.slot_list_append PySem.F.type_list_append mt_append (pv 3) (pa_cons (pe_call GA.ok hr (by rfl) GA.mg GA.kp GA.bd .nil pass0 (pa_cons (pv 0) (pa_cons (pv 4) (pa_cons (pv 5) pa_nil)))) pa_nil)))) pss_nil))))))
      (pss_one (ps_ret (pv 3))))), ?_⟩
    have qlen := hks.length
    have vlen := hvp.length
    refine ⟨by show 0 ≤ sizeLine; decide, fun rl hrl => ?_⟩
    have s1 := same_new (o := .lst []) hrl
    have h1 : (upd H rl (.lst [])) rl = some (.lst []) := upd_same
    generalize upd H rl (.lst []) = H1 at s1 h1
    refine ⟨_, rfl, tl, rfl, ⟨_, s1.seq htl⟩, ?_⟩
    refine for_list (K := K) (a := tl) (xs := qs.map V.ref) (fun i σ' H' => ∃ (v4 v5 : Option V) (xs : List V), σ' = [some (.ref a), some (.ref tl), some (.ref wl), some (.ref rl), v4, v5] ∧ Same H H' ∧ H' rl = some (.lst xs) ∧ DpAll K H' xs (seenD rs ws (ks.take i)) ∧ xs.length ≤ i * 201)
      ⟨_, _, [], rfl, s1, h1, .nil, Nat.zero_le _⟩ (fun i σ' H' _ ⟨_, _, _, _, sm, _⟩ => sm.seq htl) ?_ ?_
    · rintro i y σ' H2 hy ⟨v4, v5, xs, rfl, sm, h2, dx, xl⟩
      obtain ⟨tt, hti, rfl⟩ := map_get hy
      obtain ⟨k, hki, hk0⟩ := paired_at hks hti
      have hkm := List.mem_of_getElem? hki
      have hil := (List.getElem?_eq_some_iff.mp hki).1
      have tkk : ks.take (i + 1) = ks.take i ++ [k] := by rw [List.take_add_one, hki]; rfl
      obtain ⟨kform, kok, kh, kg⟩ := hkf k hkm
      obtain ⟨kw, kn, kr, ek⟩ := id kform
      have hww : word k = kw := by rw [ek]; rfl
      have hss : spaceK k = kn := by rw [ek]; rfl
      have hk2 : KeyAt H2 tt k := sm _ _ hk0
      have hra2 := recsAt_same hra sm
      obtain ⟨ha2, hpr2, _⟩ := id hra2
      have ti : i * 201 ≤ 200 * 201 := Nat.mul_le_mul_right _ (by omega)
      have tpre := seenD_t hg (ws := ws) (ks := ks.take i)
      refine ⟨_, rfl, .inl ⟨rfl, _, SqL.of h2⟩, _, rfl, _, rfl, a, tt, .non, ts, rs, k, none, rfl, hra2, hk2, kform, ⟨rfl, fun _ _ e => nomatch e⟩, fun x H3 s3 hx => ?_⟩
      refine nil_ ⟨rl, _, _, rfl, rfl, s3 _ _ h2, by show _ < 16777216; omega, ?_⟩
      have h3 := s3 _ _ h2
      have tk4 := tk_lst (xs' := xs ++ [x]) h3
      have sm4 : Same H (upd H3 rl (.lst (xs ++ [x]))) := fun b u e => by rw [upd_ne (ne_of_none e hrl)]; exact s3 _ _ (sm _ _ e)
      have h4 : (upd H3 rl (.lst (xs ++ [x]))) rl = some (.lst (xs ++ [x])) := upd_same
      have t0 := progV_t (k := k) (m := viewN rs none) hg
      have dx4 : DpAll K (upd H3 rl (.lst (xs ++ [x]))) (xs ++ [x]) (seenD rs ws (ks.take i) ++ [progV rs k (viewN rs none)]) :=
        dpAll_snoc (dpAll_tk tk4 _ _ tpre (dpAll_same s3 _ _ dx)) (dp_tk tk4 _ _ t0 hx)
      generalize upd H3 rl (.lst (xs ++ [x])) = H4 at sm4 h4 dx4
      refine ⟨_, rfl, wl, rfl, ⟨_, sm4.seq hwl⟩, ?_⟩
      refine for_list (K := K) (a := wl) (xs := vp.map V.ref) (fun m σ' H' => ∃ (v5 : Option V) (ys : List V), σ' = [some (.ref a), some (.ref tl), some (.ref wl), some (.ref rl), some (.ref tt), v5] ∧ Same H H' ∧ H' rl = some (.lst ys) ∧ DpAll K H' ys (seenD rs ws (ks.take i) ++ oneD rs k (ws.take m)) ∧ ys.length ≤ i * 201 + 1 + m)
        ⟨_, _, rfl, sm4, h4, by rw [List.take_zero]; exact dx4, by rw [List.length_append, List.length_singleton]; omega⟩ (fun m σ' H' _ ⟨_, _, _, sm', _⟩ => sm'.seq hwl) ?_ ?_
      · rintro m y σ' H5 hy ⟨v5, ys, rfl, sm5, h5, dy, yl⟩
        obtain ⟨vt, hvi, rfl⟩ := map_get hy
        obtain ⟨w, hwi, hw0⟩ := paired_at hvp hvi
        have hwm := List.mem_of_getElem? hwi
        have hml := (List.getElem?_eq_some_iff.mp hwi).1
        have tkw : ws.take (m + 1) = ws.take m ++ [w] := by rw [List.take_add_one, hwi]; rfl
        have hw5 : H5 vt = some (.tup [.int w.1, .int w.2]) := sm5 _ _ hw0
        have hk5 : KeyAt H5 tt k := sm5 _ _ hk0
        have hk' : H5 tt = some (.tup (V.str kw :: V.int kn :: kr.map kV)) := by
          have z : H5 tt = some (.tup (k.map kV)) := hk5
          rw [ek] at z; exact z
        have hra5 := recsAt_same hra sm5
        obtain ⟨ha5, hpr5, _⟩ := id hra5
        have no : ¬ (word k = "place" ∧ spaceK k = w.1) → oneD rs k (ws.take (m + 1)) = oneD rs k (ws.take m) := fun z => by rw [tkw, oneD_no z]
        refine ⟨_, rfl, tt, _, _, _, rfl, rfl, SqT.of hk', atI_nat (j := 0) rfl, rfl, _, rfl, ?_⟩
        by_cases cw : kw = "place"
        · rw [cw, str_eqT]
          refine iteT ⟨_, rfl, tt, _, _, _, rfl, rfl, SqT.of hk', atI_nat (j := 1) rfl, _, rfl, vt, _, _, _, rfl, rfl, SqT.of hw5, atI_nat (j := 0) rfl, rfl, _, rfl, ?_⟩
          rw [int_dec]
          by_cases cs : kn = w.1
          · rw [decide_eq_true cs]
            have hsx : SnapEx rs w.1 w.2 := hex w hwm
            refine iteT ⟨_, rfl, .inl ⟨rfl, _, SqL.of h5⟩, _, rfl, _, rfl, _, rfl, a, tt, .ref vt, ts, rs, k, some w, rfl, hra5, hk5, kform, ⟨⟨vt, rfl, SqT.of hw5⟩, fun n m e => by cases e; exact hsx⟩, fun x H6 s6 hx => ?_⟩
            refine nil_ ⟨rl, _, _, rfl, rfl, s6 _ _ h5, by show _ < 16777216; omega, ?_⟩
            have h6 := s6 _ _ h5
            have tk7 := tk_lst (xs' := ys ++ [x]) h6
            have ty : tupOs (seenD rs ws (ks.take i) ++ oneD rs k (ws.take m)) = true := tupOs_app tpre (oneD_t hg)
            refine ⟨_, ys ++ [x], rfl, fun b u e => by rw [upd_ne (ne_of_none e hrl)]; exact s6 _ _ (sm5 _ _ e), upd_same, ?_, by rw [List.length_append, List.length_singleton]; omega⟩
            rw [tkw, oneD_yes ⟨hww.trans cw, hss.trans cs⟩, ← List.append_assoc]
            exact dpAll_snoc (dpAll_tk tk7 _ _ ty (dpAll_same s6 _ _ dy)) (dp_tk tk7 _ _ (progV_t hg) hx)
          · rw [decide_eq_false cs]
            exact iteF ⟨_, ys, rfl, sm5, h5, by rw [no fun z => cs (hss.symm.trans z.2)]; exact dy, by omega⟩
        · rw [str_eqF cw]
          exact iteF ⟨_, ys, rfl, sm5, h5, by rw [no fun z => cw (hww.symm.trans z.1)]; exact dy, by omega⟩
      · rintro σ' H5 ⟨v5, ys, rfl, sm5, h5, dy, yl⟩
        rw [List.length_map, vlen] at yl
        rw [List.length_map, vlen, List.take_length] at dy
        refine ⟨_, _, ys, rfl, sm5, h5, by rw [tkk, seenD_snoc]; exact dy, by rw [Nat.succ_mul]; omega⟩
    · rintro σ' H2 ⟨v4, v5, xs, rfl, sm, h2, dx, xl⟩
      rw [List.length_map, qlen, List.take_length] at dx
      exact ⟨_, rfl, q rl xs H2 sm hrl h2 dx⟩
theorem scDue : FnScope ["records", "topics", "views", "rows", "topic", "view"] ["records", "topics", "views"] (defScope sLDue) := ⟨rfl, rfl, rfl, by decide +kernel, rfl, by decide +kernel, by decide +kernel⟩
theorem ok_due (F : Fun K "_law_due" "_law_due" sLDue f fd) (GV : Def P wd K mg base CX0 "_law_value" 2 ["records", "topic", "view"] (spLValue K) fG fdG) (GVS : Def P wd K mg base CX0 "_law_value" 2 ["records", "topic", "view"] (spLValueS K) fG fdG) : FnOk P wd K mg base CX0 3 f fd ["records", "topics", "views"] (spSeen K) := by
  refine F.ok scDue (fun vs H Q E h => ?_) (fun cdv A outer s H vs Q E hr h => ?_)
  · obtain ⟨a, tl, wl, ts, rs, qs, ks, vp, ws, rfl, _⟩ := h
    rfl
  · obtain ⟨a, tl, wl, ts, rs, qs, ks, vp, ws, rfl, hra, htl, hks, hkf, hwl, hvp, kl, wsl, hex, q⟩ := h
    obtain ⟨ha, hpr, hn, hg, asc⟩ := id hra
    refine ⟨_, (pss_cons (ps_set (i := 3) scDue.nd rfl (Or.inl rfl) (pe_lst pa_nil))
      (pss_cons (ps_for PassesOwn.never rfl (pi_list (pv 1)) (pg_name (i := 4) scDue.nd rfl (Or.inl rfl))
      (pss_cons (ps_expr (pe_bm PySem.F.plainAttrs_list PySem.F.slot_list_append PySem.F.type_list_append mt_append (pv 3) (pa_cons (pe_call GV.ok hr (by rfl) GV.mg GV.kp GV.bd .nil pass0 (pa_cons (pv 0) (pa_cons (pv 4) (pa_cons pe_non pa_nil)))) pa_nil)))
      (pss_one (ps_for PassesOwn.never rfl (pi_list (pv 2)) (pg_name (i := 5) scDue.nd rfl (Or.inl rfl))
      (pss_one (ps_if (PW.pt (pw_and (pt_cmpR op_eq (pe_ix ix_tup (pv 4) pe_int (fun _ _ => rfl)) pe_str (nomark _)) (pw_and1 (pt_cmpR op_eq (pe_ix ix_tup (pv 4) pe_int (fun _ _ => rfl)) (pe_ix ix_tup (pv 5) pe_int (fun _ _ => rfl)) (nomark _)))))
      (pss_one (ps_expr (pe_bm PySem.F.plainAttrs_list PySem.F.slot_list_append PySem.F.type_list_append mt_append (pv 3) (pa_cons (pe_call GVS.ok hr (by rfl) GVS.mg GVS.kp GVS.bd .nil pass0 (pa_cons (pv 0) (pa_cons (pv 4) (pa_cons (pv 5) pa_nil)))) pa_nil)))) pss_nil))))))
      (pss_one (ps_ret (pv 3))))), ?_⟩
    have qlen := hks.length
    have vlen := hvp.length
    refine ⟨by show 0 ≤ sizeLine; decide, fun rl hrl => ?_⟩
    have s1 := same_new (o := .lst []) hrl
    have h1 : (upd H rl (.lst [])) rl = some (.lst []) := upd_same
    generalize upd H rl (.lst []) = H1 at s1 h1
    refine ⟨_, rfl, tl, rfl, ⟨_, s1.seq htl⟩, ?_⟩
    refine for_list (K := K) (a := tl) (xs := qs.map V.ref) (fun i σ' H' => ∃ (v4 v5 : Option V) (xs : List V), σ' = [some (.ref a), some (.ref tl), some (.ref wl), some (.ref rl), v4, v5] ∧ Same H H' ∧ H' rl = some (.lst xs) ∧ DpAll K H' xs (seenD rs ws (ks.take i)) ∧ xs.length ≤ i * 201)
      ⟨_, _, [], rfl, s1, h1, .nil, Nat.zero_le _⟩ (fun i σ' H' _ ⟨_, _, _, _, sm, _⟩ => sm.seq htl) ?_ ?_
    · rintro i y σ' H2 hy ⟨v4, v5, xs, rfl, sm, h2, dx, xl⟩
      obtain ⟨tt, hti, rfl⟩ := map_get hy
      obtain ⟨k, hki, hk0⟩ := paired_at hks hti
      have hkm := List.mem_of_getElem? hki
      have hil := (List.getElem?_eq_some_iff.mp hki).1
      have tkk : ks.take (i + 1) = ks.take i ++ [k] := by rw [List.take_add_one, hki]; rfl
      obtain ⟨kform, kok, kh, kg⟩ := hkf k hkm
      obtain ⟨kw, kn, kr, ek⟩ := id kform
      have hww : word k = kw := by rw [ek]; rfl
      have hss : spaceK k = kn := by rw [ek]; rfl
      have hk2 : KeyAt H2 tt k := sm _ _ hk0
      have hra2 := recsAt_same hra sm
      obtain ⟨ha2, hpr2, _⟩ := id hra2
      have ti : i * 201 ≤ 200 * 201 := Nat.mul_le_mul_right _ (by omega)
      have tpre := seenD_t hg (ws := ws) (ks := ks.take i)
      refine ⟨_, rfl, .inl ⟨rfl, _, SqL.of h2⟩, _, rfl, _, rfl, a, tt, ts, rs, k, rfl, ha2, hpr2, hn, hg, asc, SqT.of hk2, kform, kok, fun x H3 s3 hx => ?_⟩
      rw [valL_prog asc kh kg] at hx
      refine nil_ ⟨rl, _, _, rfl, rfl, s3 _ _ h2, by show _ < 16777216; omega, ?_⟩
      have h3 := s3 _ _ h2
      have tk4 := tk_lst (xs' := xs ++ [x]) h3
      have sm4 : Same H (upd H3 rl (.lst (xs ++ [x]))) := fun b u e => by rw [upd_ne (ne_of_none e hrl)]; exact s3 _ _ (sm _ _ e)
      have h4 : (upd H3 rl (.lst (xs ++ [x]))) rl = some (.lst (xs ++ [x])) := upd_same
      have t0 := progV_t (k := k) (m := viewN rs none) hg
      have dx4 : DpAll K (upd H3 rl (.lst (xs ++ [x]))) (xs ++ [x]) (seenD rs ws (ks.take i) ++ [progV rs k (viewN rs none)]) :=
        dpAll_snoc (dpAll_tk tk4 _ _ tpre (dpAll_same s3 _ _ dx)) (dp_tk tk4 _ _ t0 hx)
      generalize upd H3 rl (.lst (xs ++ [x])) = H4 at sm4 h4 dx4
      refine ⟨_, rfl, wl, rfl, ⟨_, sm4.seq hwl⟩, ?_⟩
      refine for_list (K := K) (a := wl) (xs := vp.map V.ref) (fun m σ' H' => ∃ (v5 : Option V) (ys : List V), σ' = [some (.ref a), some (.ref tl), some (.ref wl), some (.ref rl), some (.ref tt), v5] ∧ Same H H' ∧ H' rl = some (.lst ys) ∧ DpAll K H' ys (seenD rs ws (ks.take i) ++ oneD rs k (ws.take m)) ∧ ys.length ≤ i * 201 + 1 + m)
        ⟨_, _, rfl, sm4, h4, by rw [List.take_zero]; exact dx4, by rw [List.length_append, List.length_singleton]; omega⟩ (fun m σ' H' _ ⟨_, _, _, sm', _⟩ => sm'.seq hwl) ?_ ?_
      · rintro m y σ' H5 hy ⟨v5, ys, rfl, sm5, h5, dy, yl⟩
        obtain ⟨vt, hvi, rfl⟩ := map_get hy
        obtain ⟨w, hwi, hw0⟩ := paired_at hvp hvi
        have hwm := List.mem_of_getElem? hwi
        have hml := (List.getElem?_eq_some_iff.mp hwi).1
        have tkw : ws.take (m + 1) = ws.take m ++ [w] := by rw [List.take_add_one, hwi]; rfl
        have hw5 : H5 vt = some (.tup [.int w.1, .int w.2]) := sm5 _ _ hw0
        have hk5 : KeyAt H5 tt k := sm5 _ _ hk0
        have hk' : H5 tt = some (.tup (V.str kw :: V.int kn :: kr.map kV)) := by
          have z : H5 tt = some (.tup (k.map kV)) := hk5
          rw [ek] at z; exact z
        have hra5 := recsAt_same hra sm5
        obtain ⟨ha5, hpr5, _⟩ := id hra5
        have no : ¬ (word k = "place" ∧ spaceK k = w.1) → oneD rs k (ws.take (m + 1)) = oneD rs k (ws.take m) := fun z => by rw [tkw, oneD_no z]
        refine ⟨_, rfl, tt, _, _, _, rfl, rfl, SqT.of hk', atI_nat (j := 0) rfl, rfl, _, rfl, ?_⟩
        by_cases cw : kw = "place"
        · rw [cw, str_eqT]
          refine iteT ⟨_, rfl, tt, _, _, _, rfl, rfl, SqT.of hk', atI_nat (j := 1) rfl, _, rfl, vt, _, _, _, rfl, rfl, SqT.of hw5, atI_nat (j := 0) rfl, rfl, _, rfl, ?_⟩
          rw [int_dec]
          by_cases cs : kn = w.1
          · rw [decide_eq_true cs]
            have hsx : SnapEx rs w.1 w.2 := hex w hwm
            refine iteT ⟨_, rfl, .inl ⟨rfl, _, SqL.of h5⟩, _, rfl, _, rfl, _, rfl, a, tt, vt, w.1, w.2, ts, rs, k, rfl, ha5, hpr5, hn, hg, asc, SqT.of hk5, kform, kok, SqT.of hw5, fun x H6 s6 hx => ?_⟩
            rw [valW_eq asc kh kg (viewN_same asc (some (w.1, w.2)))] at hx
            refine nil_ ⟨rl, _, _, rfl, rfl, s6 _ _ h5, by show _ < 16777216; omega, ?_⟩
            have h6 := s6 _ _ h5
            have tk7 := tk_lst (xs' := ys ++ [x]) h6
            have ty : tupOs (seenD rs ws (ks.take i) ++ oneD rs k (ws.take m)) = true := tupOs_app tpre (oneD_t hg)
            refine ⟨_, ys ++ [x], rfl, fun b u e => by rw [upd_ne (ne_of_none e hrl)]; exact s6 _ _ (sm5 _ _ e), upd_same, ?_, by rw [List.length_append, List.length_singleton]; omega⟩
            rw [tkw, oneD_yes ⟨hww.trans cw, hss.trans cs⟩, ← List.append_assoc]
            exact dpAll_snoc (dpAll_tk tk7 _ _ ty (dpAll_same s6 _ _ dy)) (dp_tk tk7 _ _ (progV_t hg) hx)
          · rw [decide_eq_false cs]
            exact iteF ⟨_, ys, rfl, sm5, h5, by rw [no fun z => cs (hss.symm.trans z.2)]; exact dy, by omega⟩
        · rw [str_eqF cw]
          exact iteF ⟨_, ys, rfl, sm5, h5, by rw [no fun z => cw (hww.symm.trans z.1)]; exact dy, by omega⟩
      · rintro σ' H5 ⟨v5, ys, rfl, sm5, h5, dy, yl⟩
        rw [List.length_map, vlen] at yl
        rw [List.length_map, vlen, List.take_length] at dy
        refine ⟨_, _, ys, rfl, sm5, h5, by rw [tkk, seenD_snoc]; exact dy, by rw [Nat.succ_mul]; omega⟩
    · rintro σ' H2 ⟨v4, v5, xs, rfl, sm, h2, dx, xl⟩
      rw [List.length_map, qlen, List.take_length] at dx
      exact ⟨_, rfl, q rl xs H2 sm hrl h2 dx⟩
theorem scLSnaps : FnScope ["records", "views", "space", "view"] ["records", "views"] (defScope sLSnaps) := ⟨rfl, rfl, rfl, by decide +kernel, rfl, by decide +kernel, by decide +kernel⟩
theorem ok_lsnaps (F : Fun K "_law_snapshots" "_law_snapshots" sLSnaps f fd) (B : BN mg) (GP : Def P wd K mg base CX0 "snapshots_of" 6 ["records", "namespace"] (spSnapsOf K) fP fdP) : FnOk P wd K mg base CX0 7 f fd ["records", "views"] (spLSnaps K) := by
  refine F.ok scLSnaps (fun vs H Q E h => ?_) (fun cdv A outer s H vs Q E hr h => ?_)
  · obtain ⟨a, wl, ts, rs, vp, ws, rfl, _⟩ := h
    rfl
  · obtain ⟨a, wl, ts, rs, vp, ws, rfl, hra, hwl, hvp, wsl, wnd, hex, q⟩ := h
    refine ⟨_, (pss_cons (ps_for PassesOwn.never rfl (pi_range2 (by rfl) B.range (pa_cons pe_int (pa_cons pe_int pa_nil))) (pg_name (i := 2) scLSnaps.nd rfl (Or.inr rfl))
      (pss_one (ps_if (pt_cmpR (op_neD hr.units) (pe_call GP.ok hr (by rfl) GP.mg GP.kp GP.bd .nil pass0 (pa_cons (pv 0) (pa_cons (pv 2) pa_nil))) (pe_callB cr_sortedI (by rfl) B.sorted (by decide +kernel) (pa_cons (pe_lc (own := [("view", 3)]) (g := gName 3) (tt := (tTest (tOp rEq (tOp (rIxT K) (tVar 3) (tC (.int 0))) (tVar 2)))) (te := (tOp (rIxT K) (tVar 3) (tC (.int 1)))) (by rfl) scLSnaps.nd (pi_list (pv 1)) (blkOk_by (own := [("view", 3)]) (N := ["records", "views", "space", "view"]) (sc := defScope sLSnaps) (by decide +kernel)) (fun _ _ _ _ _ => pg_name (i := 3) scLSnaps.nd rfl (Or.inl rfl)) (fun _ _ _ _ _ => pts_one (pt_cmpR op_eq (pe_ix ix_tup (pv 3) pe_int (fun _ _ => rfl)) (pv 2) (nomark _))) (fun _ _ _ _ _ => by exact (pe_ix ix_tup (pv 3) pe_int (fun _ _ => rfl)))) pa_nil)) (nomark _))
      (pss_one (ps_ret pe_bl)) pss_nil)))
      (pss_one (ps_ret pe_bl))), ?_⟩
    have vlen := hvp.length
    refine ⟨_, _, rfl, by decide, ?_⟩
    refine for_range (lo := 1) (n := 8) (fun i σ Hx => ∃ (v2 v3 : Option V), σ = [some (.ref a), some (.ref wl), v2, v3] ∧ Same H Hx) ⟨_, _, rfl, Same.refl H⟩ ?_ ?_
    · rintro i σ H1 hi ⟨v2, v3, rfl, s1⟩
      generalize (1 + (i : Int)) = n
      refine ⟨_, rfl, _, rfl, a, ts, rs, n, rfl, recsAt_same hra s1, fun l zs H2 s2 hl hm hz hsr hnd => ?_⟩
      have s12 := s1.trans s2
      refine ⟨_, rfl, wl, rfl, ⟨_, s12.seq hwl⟩, fun D hD => ?_⟩
      have hw2 := s12.seq hwl
      refine lc_list (K := K) (a := wl) (xs := vp.map V.ref) (fun i H' => Same H2 H' ∧ H' D = some (.lst ((((ws.take i).filter fun v => decide (v.1 = n)).map (·.2)).map V.int))) ⟨same_new hD, upd_same⟩ (fun i H' _ ⟨sm, _⟩ => sm.seq hw2) ?_ ?_
      · rintro j y H' hy ⟨sm, hDl⟩
        obtain ⟨vt, hvi, rfl⟩ := map_get hy
        obtain ⟨w, hwi, hw0⟩ := paired_at hvp hvi
        have hjl := (List.getElem?_eq_some_iff.mp hwi).1
        have tkw : ws.take (j + 1) = ws.take j ++ [w] := by rw [List.take_add_one, hwi]; rfl
        have hw5 : H' vt = some (.tup [.int w.1, .int w.2]) := (s12.trans sm) _ _ hw0
        refine ⟨rfl, _, rfl, vt, _, _, _, rfl, rfl, SqT.of hw5, atI_nat (j := 0) rfl, _, rfl, rfl, _, rfl, ?_⟩
        rw [int_dec]
        by_cases c : w.1 = n
        · rw [decide_eq_true c]
          refine iteT ⟨_, rfl, vt, _, _, _, rfl, rfl, SqT.of hw5, atI_nat (j := 1) rfl, _, hDl, ?_, fun b u e => by rw [upd_ne (ne_of_none e hD)]; exact sm _ _ e, ?_⟩
          · rw [List.length_map, List.length_map]
            have := List.length_filter_le (fun v : IP => decide (v.1 = n)) (ws.take j)
            rw [List.length_take] at this
            exact small1000 (by omega)
          · rw [upd_same, tkw, List.filter_append, List.filter_cons, decide_eq_true c, if_pos rfl, List.filter_nil, List.map_append, List.map_append]; rfl
        · rw [decide_eq_false c]
          refine iteF ⟨sm, ?_⟩
          rw [tkw, List.filter_append, List.filter_cons, decide_eq_false c, if_neg Bool.false_ne_true, List.filter_nil, List.append_nil]; exact hDl
      · rintro H3 ⟨sm, hDl⟩
        rw [List.length_map, vlen, List.take_length] at hDl
        refine nil_ ⟨D, _, rfl, SqL.of hDl, fun zs' p' hpm hsr' hp' => ?_⟩
        have e : zs' = zs := by
          have nd1 : ((ws.filter fun v => decide (v.1 = n)).map (·.2)).Nodup := nodup_mapOn (wnd.filter _) fun x hx y hy e => by
            have h1 := of_decide_eq_true (List.mem_filter.mp hx).2
            have h2 := of_decide_eq_true (List.mem_filter.mp hy).2
            obtain ⟨x1, x2⟩ := x
            obtain ⟨y1, y2⟩ := y
            have e1 : x1 = y1 := h1.trans h2.symm
            have e2 : x2 = y2 := e
            rw [e1, e2]
          have pm : zs'.Perm zs := (List.perm_ext_iff_of_nodup (hpm.nodup_iff.mpr nd1) hnd).mpr fun m => by
            rw [hpm.mem_iff, hm, ← hex, List.mem_map]
            constructor
            · rintro ⟨⟨v1, v2⟩, hv, e⟩
              have h1 : v1 = n := of_decide_eq_true (List.mem_filter.mp hv).2
              have e' : v2 = m := e
              rw [← h1, ← e']; exact (List.mem_filter.mp hv).1
            · intro hv
              exact ⟨(n, m), List.mem_filter.mpr ⟨hv, decide_eq_true rfl⟩, rfl⟩
          exact List.Perm.eq_of_pairwise (fun a b _ _ h1 h2 => by omega) hsr' hsr pm
        subst e
        have s4 := same_new (o := .lst (zs'.map V.int)) hp'
        refine ⟨_, _, .lst (SqL.of (s4 _ _ (sm _ _ hl))) ints_dp, .lst (SqL.of upd_same) ints_dp, ints_sh, ints_sh, _, rfl, ?_⟩
        rw [SeqAt.eqv_refl _ (by simp only [PyData.canLay0]; exact ints_lay.1)]
        exact iteF ⟨_, _, rfl, s12.trans (sm.trans s4)⟩
    · rintro σ H1 ⟨v2, v3, rfl, s1⟩
      exact q H1 s1
end
end Sg

set_option Elab.async false
set_option linter.all false
set_option maxRecDepth 100000
set_option maxHeartbeats 4000000
namespace Sg
open PySem PySem.Spec PyProof.Rows L2
/-! ### the law -/
def spLaw (K : PySem.W.Frag) : Sp := fun vs H Q _ => ∃ (a : Addr) (ns : List Int), vs = [.ref a] ∧ SqL K H a (ns.map V.int) ∧ ns.length ≤ 63 ∧ ∀ H', Q (.bl true) H'
theorem viewsL_len {rs : List Rc} : (viewsL rs).length ≤ 2 * rs.length := by
  unfold viewsL
  rw [List.length_map]
  exact Nat.le_trans (List.length_filter_le _ _) topicsL_len
theorem viewsL_nodup {rs : List Rc} : (viewsL rs).Nodup := by
  unfold viewsL
  refine nodup_mapOn (topicsL_nodup.filter _) fun x hx y hy e => ?_
  obtain ⟨hx1, hx2⟩ := List.mem_filter.mp hx
  obtain ⟨hy1, hy2⟩ := List.mem_filter.mp hy
  unfold isView at hx2 hy2
  rw [Bool.and_eq_true, decide_eq_true_iff] at hx2 hy2
  obtain ⟨n, m, e1⟩ := topicsL_s x hx1 hx2.1
  obtain ⟨n', m', e2⟩ := topicsL_s y hy1 hy2.1
  rw [e1, e2] at e
  have e3 : (n, m) = (n', m') := e
  cases e3
  rw [e1, e2]
theorem recs_eqv {rs : List Rc} (h : ∀ r ∈ rs, RGood r) : PyData.eqv (.list (rs.map recDt)) (.list (rs.map recDt)) = true := SeqAt.eqv_refl _ (by simp only [PyData.canLay0]; exact (recs_lay h).1)
theorem rec_eqv {z r : Rc} (h : ¬ z.o = r.o) : PyData.eqv (recDt z) (recDt r) = false := by
  simp [recDt, PyData.eqv, PyData.eqvAll, h]
theorem recs_any {l : List Rc} {r : Rc} (hg : RGood r) (h : ∀ z ∈ l, z.o = r.o → z = r) : (l.map recDt).any (fun z => PyData.eqv z (recDt r)) = true ↔ r ∈ l := by
  rw [List.any_eq_true]
  constructor
  · rintro ⟨d, hd, e⟩
    obtain ⟨z, hz, rfl⟩ := List.mem_map.mp hd
    by_cases c : z.o = r.o
    · rw [← h z hz c]; exact hz
    · rw [rec_eqv c] at e; cases e
  · intro hr
    exact ⟨recDt r, List.mem_map.mpr ⟨r, hr, rfl⟩, SeqAt.eqv_refl _ hg.l⟩
structure LX (K : PySem.W.Frag) (tp q tl wl dl lf : Addr) (qs : List Addr) (ks : Tops) (vp : List Addr) (ws : List IP) (xs : List V) (ds : List PyData) (tf : List Addr) (B : List Rc) (Hx : Hp) : Prop where
  t : TapeQ K Hx tp q
  a : Hx tl = some (.lst (qs.map V.ref))
  b : Paired (KeyTp Hx) qs ks
  c : Hx wl = some (.lst (vp.map V.ref))
  d : Paired (PairAt Hx) vp ws
  e : Hx dl = some (.lst xs)
  f : DpAll K Hx xs ds
  g : Hx lf = some (.lst (tf.map V.ref))
  i : Paired (RecAt K Hx) tf B
section
variable {K : PySem.W.Frag} {tp q tl wl dl lf : Addr} {qs : List Addr} {ks : Tops} {vp : List Addr} {ws : List IP} {xs : List V} {ds : List PyData} {tf : List Addr} {B : List Rc} {Hx Hy : Hp}
theorem LX.same (h : LX K tp q tl wl dl lf qs ks vp ws xs ds tf B Hx) (s : Same Hx Hy) : LX K tp q tl wl dl lf qs ks vp ws xs ds tf B Hy :=
  ⟨h.t.same s, s _ _ h.a, paired_ktk (fun _ _ z => s _ _ z) h.b, s _ _ h.c, Paired.imp2 (fun _ _ z => s _ _ z) h.d, s _ _ h.e, dpAll_same s _ _ h.f, s _ _ h.g, Paired.imp2 (fun _ _ z => z.same s) h.i⟩
theorem LX.off (h : LX K tp q tl wl dl lf qs ks vp ws xs ds tf B Hx) (n1 : tl ≠ tp) (n2 : wl ≠ tp) (n3 : dl ≠ tp) (n4 : lf ≠ tp) (g1 : tupOs ds = true) (g2 : ∀ r ∈ B, RGood r) (o : Off [tp] Hx Hy) (t : TapeQ K Hy tp q) : LX K tp q tl wl dl lf qs ks vp ws xs ds tf B Hy := by
  have tk := h.t.tk o
  exact ⟨t, o _ _ h.a (by simpa using n1), paired_ktk tk.t h.b, o _ _ h.c (by simpa using n2), Paired.imp2 (fun _ _ z => tk.t _ _ z) h.d, o _ _ h.e (by simpa using n3), dpAll_tk tk _ _ g1 h.f, o _ _ h.g (by simpa using n4), paired_rtk tk g2 h.i⟩
/-- a list of one's own is written -/
theorem LX.put (h : LX K tp q tl wl dl lf qs ks vp ws xs ds tf B Hx) (g1 : tupOs ds = true) (g2 : ∀ r ∈ B, RGood r) {kp : Addr} {l l' : List V} (hk : Hx kp = some (.lst l)) (n0 : kp ≠ tp) (n00 : kp ≠ q) (n1 : tl ≠ kp) (n2 : wl ≠ kp) (n3 : dl ≠ kp) (n4 : lf ≠ kp) : LX K tp q tl wl dl lf qs ks vp ws xs ds tf B (upd Hx kp (.lst l')) := by
  have tk := tk_lst (xs' := l') hk
  exact ⟨h.t.off (xs := [kp]) (Off.upd (by simp)) (by simpa using fun e => n0 e.symm) (by simpa using fun e => n00 e.symm), by rw [upd_ne n1]; exact h.a, paired_ktk tk.t h.b, by rw [upd_ne n2]; exact h.c, Paired.imp2 (fun _ _ z => tk.t _ _ z) h.d, by rw [upd_ne n3]; exact h.e, dpAll_tk tk _ _ g1 h.f, by rw [upd_ne n4]; exact h.g, paired_rtk tk g2 h.i⟩
theorem LX.left (h : LX K tp q tl wl dl lf qs ks vp ws xs ds tf B Hx) {kp : Addr} {tc : List Addr} {C : List Rc} (hk : Hx kp = some (.lst (tc.map V.ref))) (hp : Paired (RecAt K Hx) tc C) : LX K tp q tl wl dl kp qs ks vp ws xs ds tc C Hx :=
  ⟨h.t, h.a, h.b, h.c, h.d, h.e, h.f, hk, hp⟩
end
theorem oneD_says {rs B : List Rc} {k : List Key} {ws : List IP} (S : Says rs B) (h1 : word k ≠ "host") (h2 : word k ≠ "gone") (hw : ∀ v ∈ ws, SnapEx rs v.1 v.2) : oneD B k ws = oneD rs k ws := by
  unfold oneD
  congr 1
  · exact S.now k h1 h2
  · refine List.map_congr_left fun v hv => ?_
    obtain ⟨hv1, hv2⟩ := List.mem_filter.mp hv
    rw [Bool.and_eq_true, decide_eq_true_iff, decide_eq_true_iff] at hv2
    have hs := hw v hv1
    rw [← hv2.2] at hs
    exact S.then_ k v.2 hv2.1 hs
theorem seenD_says {rs B : List Rc} {ks : Tops} {ws : List IP} (S : Says rs B) (hk : ∀ k ∈ ks, word k ≠ "host" ∧ word k ≠ "gone") (hw : ∀ v ∈ ws, SnapEx rs v.1 v.2) : seenD B ws ks = seenD rs ws ks := by
  unfold seenD
  congr 1
  exact List.map_congr_left fun k hkm => oneD_says S (hk k hkm).1 (hk k hkm).2 hw
section
variable {P : Program} {wd : World} {K : PySem.W.Frag} {mg : Str → Option Value} {base : Heap} {f fN fR fT fV fD fS fP fL : Addr} {fd fdN fdR fdT fdV fdD fdS fdP fdL : FuncData}
theorem scLaw : FnScope ["script", "tape", "records", "topics", "views", "due", "left", "turn", "passed", "live", "record", "keep"] ["script"] (defScope sLaw) := ⟨rfl, rfl, rfl, by decide +kernel, rfl, by decide +kernel, by decide +kernel⟩
theorem ok_law (F : Fun K "law" "law" sLaw f fd) (B : BN mg) (GN : Def P wd K mg base CX0 "_law_next" 1 ["tape", "many"] (spNext K) fN fdN) (GR : Def P wd K mg base CX0 "_law_records" 3 ["tape", "most"] (spLRecords K) fR fdR) (GT : Def P wd K mg base CX0 "_law_topics" 2 ["records"] (spLTopics K) fT fdT) (GV : Def P wd K mg base CX0 "_law_views" 3 ["records"] (spLViews K) fV fdV)
    (GD : Def P wd K mg base CX0 "_law_due" 3 ["records", "topics", "views"] (spSeen K) fD fdD) (GS : Def P wd K mg base CX0 "_law_seen" 7 ["records", "topics", "views"] (spSeen K) fS fdS) (GP : Def P wd K mg base CX0 "_law_snapshots" 7 ["records", "views"] (spLSnaps K) fP fdP) (PL : Def P wd K mg base CX0 "live_records" 6 ["records"] (spLiveRec K) fL fdL) : FnOk P wd K mg base CX0 8 f fd ["script"] (spLaw K) := by
  refine F.ok scLaw (fun vs H Q E h => ?_) (fun cdv A outer s H vs Q E hr h => ?_)
  · obtain ⟨a, ns, rfl, _⟩ := h
    rfl
  · obtain ⟨a, ns, rfl, hS, hlen, kk⟩ := h
    have hr1 : Room 1 _ := hr.mono (by decide)
    have hr2 : Room 2 _ := hr.mono (by decide)
    have hr3 : Room 3 _ := hr.mono (by decide)
    have hr6 : Room 6 _ := hr.mono (by decide)
    refine ⟨_, (pss_cons (ps_set (i := 1) scLaw.nd rfl (Or.inl rfl) (pe_lst (pa_cons (pe_callTy call_list_of (by rfl) B.list (by decide +kernel) (pa_cons (pv 0) pa_nil)) (pa_cons pe_int (pa_cons pe_int (pa_cons pe_int pa_nil))))))
      (pss_cons (ps_set (i := 2) scLaw.nd rfl (Or.inl rfl) (pe_call GR.ok hr3 (by rfl) GR.mg GR.kp GR.bd .nil pass0 (pa_cons (pv 1) (pa_cons (pe_ix ix_tup (pe_tup (pa_cons pe_int (pa_cons pe_int (pa_cons pe_int pa_nil)))) (pe_call GN.ok hr1 (by rfl) GN.mg GN.kp GN.bd .nil pass0 (pa_cons (pv 1) (pa_cons pe_int pa_nil))) (fun _ _ => rfl)) pa_nil))))
      (pss_cons (ps_set (i := 3) scLaw.nd rfl (Or.inl rfl) (pe_call GT.ok hr2 (by rfl) GT.mg GT.kp GT.bd .nil pass0 (pa_cons (pv 2) pa_nil)))
      (pss_cons (ps_set (i := 4) scLaw.nd rfl (Or.inl rfl) (pe_call GV.ok hr3 (by rfl) GV.mg GV.kp GV.bd .nil pass0 (pa_cons (pv 2) pa_nil)))
      (pss_cons (ps_set (i := 5) scLaw.nd rfl (Or.inl rfl) (pe_call GD.ok hr3 (by rfl) GD.mg GD.kp GD.bd .nil pass0 (pa_cons (pv 2) (pa_cons (pv 3) (pa_cons (pv 4) pa_nil)))))
      (pss_cons (ps_set (i := 6) scLaw.nd rfl (Or.inl rfl) (pe_callTy call_list_of (by rfl) B.list (by decide +kernel) (pa_cons (pv 2) pa_nil)))
      (pss_cons (ps_for PassesOwn.never rfl (pi_range1 (by rfl) B.range (pa_cons pe_int pa_nil)) (pg_name (i := 7) scLaw.nd rfl (Or.inl rfl))
      (pss_cons (ps_set (i := 8) scLaw.nd rfl (Or.inl rfl) (pe_callTy call_list_of (by rfl) B.list (by decide +kernel) (pa_cons (pv 6) pa_nil)))
      (pss_cons (ps_if (PW.pt (pw_or (pt_cmpR (op_neD hr.units) (pe_call GS.ok hr (by rfl) GS.mg GS.kp GS.bd .nil pass0 (pa_cons (pv 8) (pa_cons (pv 3) (pa_cons (pv 4) pa_nil)))) (pv 5) (nomark _)) (pw_or1 (pt_cmpR (op_neD hr.units) (pv 8) (pv 6) (nomark _)))))
      (pss_one (ps_ret pe_bl)) pss_nil)
      (pss_cons (ps_if (pt_cut (PW.pt (pw_and (pt_cmpR op_eq (pv 7) pe_int (nomark _)) (pw_and1 (pt_not (pt_val (pe_call GP.ok hr (by rfl) GP.mg GP.kp GP.bd .nil pass0 (pa_cons (pv 8) (pa_cons (pv 4) pa_nil)))))))))
      (pss_one (ps_ret pe_bl)) pss_nil)
      (pss_cons (ps_set (i := 9) scLaw.nd rfl (Or.inr rfl) (pe_call PL.ok hr6 (by rfl) PL.mg PL.kp PL.bd .nil pass0 (pa_cons (pv 8) pa_nil)))
      (pss_cons (ps_if (PW.pt (pw_or (pt_not (pt_val (pe_callB call_isi (by rfl) B.isi boot_isi (pa_cons (pv 9) (pa_cons (pe_bltn (v := .ty "list") (by rfl) B.list boot_list rfl) pa_nil))))) (pw_or (pt_cmpR (op_neD hr.units) (pv 8) (pv 6) (nomark _)) (pw_or1 (pt_cmpR (op_neD hr.units) (pv 9) (pe_lc (own := [("record", 10)]) (g := gName 10) (tt := (tTest (tOp (rInD K) (tVar 10) (tVar 9)))) (te := (tVar 10)) (by rfl) scLaw.nd (pi_list (pv 6)) (blkOk_by (own := [("record", 10)]) (N := ["script", "tape", "records", "topics", "views", "due", "left", "turn", "passed", "live", "record", "keep"]) (sc := defScope sLaw) (by decide +kernel)) (fun _ _ _ _ _ => pg_name (i := 10) scLaw.nd rfl (Or.inl rfl)) (fun _ _ _ _ _ => pts_one (pt_cmpR (op_inD (hu65 hr)) (pv 10) (pv 9) (by rfl))) (fun _ _ _ _ _ => by exact (pv 10))) (nomark _))))))
      (pss_one (ps_ret pe_bl)) pss_nil)
      (pss_cons (ps_set (i := 11) scLaw.nd rfl (Or.inl rfl) (pe_lst pa_nil))
      (pss_cons (ps_for PassesOwn.never rfl (pi_list (pv 6)) (pg_name (i := 10) scLaw.nd rfl (Or.inl rfl))
      (pss_one (ps_if (pt_cut (PW.pt (pw_or (pt_cmpR (op_inD (hu65 hr)) (pv 10) (pv 9) (by rfl)) (pw_or1 (pt_cmpR op_eq (pe_call GN.ok hr1 (by rfl) GN.mg GN.kp GN.bd .nil pass0 (pa_cons (pv 1) (pa_cons pe_int pa_nil))) pe_int (nomark _))))))
      (pss_one (ps_expr (pe_bm PySem.F.plainAttrs_list PySem.F.slot_list_append PySem.F.type_list_append mt_append (pv 11) (pa_cons (pv 10) pa_nil)))) pss_nil)))
      (pss_one (ps_set (i := 6) scLaw.nd rfl (Or.inl rfl) (pv 11)))))))))))
      (pss_one (ps_ret (pe_and (pe_cmpR (op_eqD hr.units) (pe_call GS.ok hr (by rfl) GS.mg GS.kp GS.bd .nil pass0 (pa_cons (pv 6) (pa_cons (pv 3) (pa_cons (pv 4) pa_nil)))) (pv 5) (nomark _)) (pe_one (pe_call GP.ok hr (by rfl) GP.mg GP.kp GP.bd .nil pass0 (pa_cons (pv 6) (pa_cons (pv 4) pa_nil)))))))))))))), ?_⟩
    refine ⟨_, rfl, a, _, rfl, .inl hS, fun q hq => ⟨by show 4 ≤ sizeLine; decide, fun tp hp => ?_⟩⟩
    have nqp : q ≠ tp := fun e => by rw [e] at hp; rw [upd_same] at hp; cases hp
    have t1 : TapeQ K (upd (upd H q (.lst (ns.map V.int))) tp (.lst [.ref q, .int 0, .int 0, .int 5])) tp q :=
      ⟨ns, 0, 0, 5, upd_same, by rw [upd_ne nqp, upd_same], nqp, by decide, by decide, by decide⟩
    generalize hH1 : upd (upd H q (.lst (ns.map V.int))) tp _ = H1
    rw [hH1] at t1
    refine ⟨_, rfl, by show 3 ≤ sizeLine; decide, fun a3 ha3 => ?_⟩
    have t2 := t1.same (same_new (o := .tup [.int 6, .int 12, .int 30]) ha3)
    have h3 : (upd H1 a3 (.tup [.int 6, .int 12, .int 30])) a3 = some (.tup [.int 6, .int 12, .int 30]) := upd_same
    generalize upd H1 a3 (.tup [.int 6, .int 12, .int 30]) = H2 at t2 h3
    refine ⟨_, rfl, tp, q, 3, rfl, t2, by decide, by decide, fun r3 H3 r30 r31 o3 t3 => ?_⟩
    have tk3 := t2.tk o3
    obtain ⟨most, hat, hm0, hm24⟩ : ∃ most : Int, atI [V.int 6, V.int 12, V.int 30] r3 = some (V.int most) ∧ 0 < most ∧ most ≤ 30 := by
      have : r3 = 0 ∨ r3 = 1 ∨ r3 = 2 := by omega
      rcases this with rfl | rfl | rfl
      · exact ⟨6, rfl, by decide, by decide⟩
      · exact ⟨12, rfl, by decide, by decide⟩
      · exact ⟨30, rfl, by decide, by decide⟩
    refine ⟨a3, _, _, _, rfl, rfl, SqT.of (tk3.t _ _ h3), hat, tp, q, most, rfl, t3, hm0, by omega, fun rl ts rs H4 o4 t4 hrl hrl4 pr4 asc hg rlen rpos => ?_⟩
    have rl30 : rs.length ≤ 30 := by omega
    clear h3 tk3 o3 t3 t2 t1
    have hR4 : RecsAt K H4 rl ts rs := ⟨SqL.of hrl4, pr4, by omega, hg, asc⟩
    refine ⟨_, rfl, rl, ts, rs, rfl, SqL.of hrl4, pr4, by omega, hg, fun tl qs H5 s5 htl htl5 pk5 => ?_⟩
    refine ⟨_, rfl, rl, ts, rs, rfl, SqL.of (s5 _ _ hrl4), Paired.imp2 (fun _ _ z => z.same s5) pr4, by omega, hg, asc, fun wl vp H6 s6 hwl hwl6 pv6 => ?_⟩
    have s46 := s5.trans s6
    have vlen := viewsL_len (rs := rs)
    have tlen := topicsL_len (rs := rs)
    have hex : ∀ v ∈ viewsL rs, SnapEx rs v.1 v.2 := fun v hv => (views_iff asc).mp hv
    have hkf : ∀ k ∈ topicsL rs, TForm k ∧ KOk k ∧ word k ≠ "host" ∧ word k ≠ "gone" := fun k hk => ⟨topicsL_form k hk, topicsL_k k hk, (topicsL_mem.mp hk).2.1, (topicsL_mem.mp hk).1⟩
    have hkw : ∀ k ∈ topicsL rs, word k ≠ "host" ∧ word k ≠ "gone" := fun k hk => ⟨(hkf k hk).2.2.1, (hkf k hk).2.2.2⟩
    refine ⟨_, rfl, _, rfl, _, rfl, rl, tl, wl, ts, rs, qs, topicsL rs, vp, viewsL rs, rfl, recsAt_same hR4 s46, SqL.of (s6 _ _ htl5), paired_ktk (fun _ _ z => s6 _ _ z) pk5, hkf, SqL.of hwl6, pv6, by omega, by omega, hex, fun dl xs H7 s7 hdl hdl7 dx7 => ?_⟩
    have s47 := s46.trans s7
    refine ⟨_, rfl, rl, _, rfl, .inl (SqL.of (s47 _ _ hrl4)), fun lf hlf => ?_⟩
    have s8 := same_new (o := .lst (ts.map V.ref)) hlf
    have hlf8 : (upd H7 lf (.lst (ts.map V.ref))) lf = some (.lst (ts.map V.ref)) := upd_same
    have gD : tupOs (seenD rs (viewsL rs) (topicsL rs)) = true := seenD_t hg
    have shD : SeqAt.shaped (.list (seenD rs (viewsL rs) (topicsL rs))) = true := by
      have z := seenD_g (ws := viewsL rs) hg (fun k hk => (hkw k hk).1)
      exact shaped_list z.1 (Nat.le_trans z.2 (by decide))
    have eqD : PyData.eqv (.list (seenD rs (viewsL rs) (topicsL rs))) (.list (seenD rs (viewsL rs) (topicsL rs))) = true := SeqAt.eqv_refl _ (by simp only [PyData.canLay0]; exact (seenD_g (ws := viewsL rs) hg (fun k hk => (hkw k hk).1)).1)
    have nt := tape_ne t4 htl
    have nw := tape_ne (t4.same s5) hwl
    have nd := tape_ne (t4.same s46) hdl
    have nl := tape_ne (t4.same s47) hlf
    have X8 : LX K tp q tl wl dl lf qs (topicsL rs) vp (viewsL rs) xs (seenD rs (viewsL rs) (topicsL rs)) ts rs (upd H7 lf (.lst (ts.map V.ref))) :=
      ⟨(t4.same s47).same s8, s8 _ _ (s7 _ _ (s6 _ _ htl5)), paired_ktk (fun _ _ z => (s6.trans (s7.trans s8)) _ _ z) pk5, s8 _ _ (s7 _ _ hwl6), Paired.imp2 (fun _ _ z => (s7.trans s8) _ _ z) pv6, s8 _ _ hdl7, dpAll_same s8 _ _ dx7, hlf8, Paired.imp2 (fun _ _ z => z.same (s47.trans s8)) pr4⟩
    generalize upd H7 lf (.lst (ts.map V.ref)) = H8 at X8
    clear hlf8 s8 s47 dx7 hdl7 hdl s7 s46 pv6 hwl6 hwl s6 pk5 htl5 htl s5 hR4 pr4 hrl4 hrl t4 o4 hlf
    have nlf := nl.1
    clear nl
    -- what is seen of what is left, and its snapshots
    have seenOk : ∀ {B : List Rc} {Hx : Hp} {tf : List Addr} {lf pz : Addr}, LX K tp q tl wl dl lf qs (topicsL rs) vp (viewsL rs) xs (seenD rs (viewsL rs) (topicsL rs)) tf B Hx → Says rs B → B.Pairwise (fun x y => x.o < y.o) → (∀ r ∈ B, RGood r) → B.length ≤ 30 → Hx pz = some (.lst (tf.map V.ref)) → RecsAt K Hx pz tf B ∧ (∀ v ∈ viewsL rs, SnapEx B v.1 v.2) ∧ seenD B (viewsL rs) (topicsL rs) = seenD rs (viewsL rs) (topicsL rs) ∧ ∀ n m, (n, m) ∈ viewsL rs ↔ SnapEx B n m := fun X S aB gB lB hpz =>
      ⟨⟨SqL.of hpz, X.i, by omega, gB, aB⟩, fun v hv => (S.snaps _ _).mpr (hex v hv), seenD_says S hkw hex, fun n m => (views_iff asc).trans (S.snaps n m).symm⟩
    refine ⟨_, rfl, by decide, by decide, ?_⟩
    refine for_range (lo := 0) (n := 3) (fun i σ Hx => ∃ (v7 v8 v9 v10 v11 : Option V) (lf : Addr) (tf : List Addr) (B : List Rc), σ = [some (.ref a), some (.ref tp), some (.ref rl), some (.ref tl), some (.ref wl), some (.ref dl), some (.ref lf), v7, v8, v9, v10, v11] ∧ LX K tp q tl wl dl lf qs (topicsL rs) vp (viewsL rs) xs (seenD rs (viewsL rs) (topicsL rs)) tf B Hx ∧ lf ≠ tp ∧ Says rs B ∧ B.Sublist rs)
      ⟨_, _, _, _, _, lf, ts, rs, rfl, X8, nlf, Says.refl rs, List.Sublist.refl rs⟩ ?_ ?_
    · rintro i σ H9 hi ⟨v7, v8, v9, v10, v11, lf, tf, B, rfl, X9, nlf, S, sub⟩
      have aB : B.Pairwise (fun x y => x.o < y.o) := asc.sublist sub
      have gB : ∀ r ∈ B, RGood r := fun r hr => hg r (sub.subset hr)
      have lB : B.length ≤ 30 := Nat.le_trans sub.length_le rl30
      have tfl := X9.i.length
      refine ⟨_, rfl, lf, _, rfl, .inl (SqL.of X9.g), fun pz hpz => ?_⟩
      have XA := X9.same (same_new (o := .lst (tf.map V.ref)) hpz)
      have hpzA : (upd H9 pz (.lst (tf.map V.ref))) pz = some (.lst (tf.map V.ref)) := upd_same
      generalize upd H9 pz (.lst (tf.map V.ref)) = HA at XA hpzA
      obtain ⟨hRA, hexB, eD, hexI⟩ := seenOk XA S aB gB lB hpzA
      refine ⟨_, rfl, _, rfl, _, rfl, pz, tl, wl, tf, B, qs, topicsL rs, vp, viewsL rs, rfl, hRA, SqL.of XA.a, XA.b, hkf, SqL.of XA.c, XA.d, by omega, by omega, hexB, fun l1 ys HB sB hl1 hl1' dy => ?_⟩
      rw [eD] at dy
      have XB := XA.same sB
      refine ⟨_, rfl, _, _, .lst (SqL.of hl1') dy, .lst (SqL.of XB.e) XB.f, shD, shD, _, rfl, ?_⟩
      rw [eqD]
      refine iteF ⟨_, rfl, _, rfl, _, _, .lst (SqL.of (sB _ _ hpzA)) (recs_dp XB.i), .lst (SqL.of XB.g) (recs_dp XB.i), recs_sh gB, recs_sh gB, _, rfl, ?_⟩
      rw [recs_eqv gB]
      refine iteF ⟨fun b Hx => b = false ∧ Same HB Hx, ?_, ?_⟩
      · refine ⟨_, rfl, rfl, _, rfl, ?_⟩
        rw [int_dec]
        cases c0 : decide ((0 : Int) + (i : Int) = 0) with
        | false => exact iteF ⟨rfl, Same.refl HB⟩
        | true =>
          exact iteT ⟨_, rfl, _, rfl, pz, wl, tf, B, vp, viewsL rs, rfl, recsAt_same hRA sB, SqL.of XB.c, XB.d, by omega, viewsL_nodup, hexI, fun Hx sx => ⟨true, rfl, rfl, sx⟩⟩
      rintro b HC ⟨rfl, sC⟩
      have XC := XB.same sC
      have hpzC := sC _ _ (sB _ _ hpzA)
      refine iteF ⟨_, rfl, pz, tf, B, rfl, SqL.of hpzC, XC.i, ⟨by omega, gB, asc_inj aB⟩, fun l2 ts2 B2 HD sD hl2 hl2' p2 a2 m2 _ => ?_⟩
      obtain rfl : B2 = B := asc_uniq a2 aB m2
      have XD := XC.same sD
      have gL : ∀ r ∈ progL B2, RGood r := fun r hr => gB r (progL_sub.subset hr)
      have hpzD := sD _ _ hpzC
      have anyR : ∀ r ∈ B2, (((progL B2).map recDt).any (fun z => PyData.eqv z (recDt r)) = true ↔ r ∈ progL B2) := fun r hr => recs_any (gB r hr) fun z hz e => asc_inj aB z (progL_sub.subset hz) r hr e
      refine ⟨_, rfl, _, _, _, _, true, rfl, .ty "list", .base (.lst hl2'), (show PySem.W.kitOne K (.type "list") (.type "list") = some true from kit_ty (by decide +kernel)), true, rfl, iteF ?_⟩
      refine ⟨_, rfl, _, rfl, _, _, .lst (SqL.of hpzD) (recs_dp XD.i), .lst (SqL.of XD.g) (recs_dp XD.i), recs_sh gB, recs_sh gB, _, rfl, ?_⟩
      rw [recs_eqv gB]
      refine iteF ⟨_, rfl, _, rfl, lf, rfl, ⟨_, SqL.of XD.g⟩, fun D hD => ?_⟩
      refine lc_filtB (B2.map fun r => ((progL B2).map recDt).any (fun z => PyData.eqv z (recDt r))) (by rw [List.length_map, List.length_map, tfl]) hD (SqL.of XD.g) (fun _ => rfl) (by rw [List.length_map]; exact Nat.le_of_lt (small1000 (by omega))) (fun i' x' b H' Q' hx' hb' sm' kk' => ?_) (fun x' H' Q' hm' kk' => ⟨_, rfl, kk'⟩) fun HE sE hDl => ?_
      · obtain ⟨t', hti', rfl⟩ := map_get hx'
        obtain ⟨r', hri', hrt'⟩ := paired_at XD.i hti'
        rw [List.getElem?_map, hri'] at hb'
        cases hb'
        dsimp only at kk'
        exact ⟨_, rfl, _, rfl, _, _, (hrt'.same sm').dp, .lst (SqL.of (sm' _ _ hl2')) (dpAll_same sm' _ _ (recs_dp p2)), (gB r' (List.mem_of_getElem? hri')).sh, recs_sh gL, _, rfl, kk' H' (Same.refl H')⟩
      obtain ⟨ts3, e3, p3⟩ := keepB_paired (p := fun r : Rc => ((progL B2).map recDt).any (fun z => PyData.eqv z (recDt r))) XD.i
      rw [e3] at hDl
      have ef : B2.filter (fun r => ((progL B2).map recDt).any (fun z => PyData.eqv z (recDt r))) = progL B2 := asc_uniq (aB.sublist List.filter_sublist) (progL_asc aB) fun r => by
        rw [List.mem_filter]
        constructor
        · rintro ⟨h1, h2⟩; exact (anyR r h1).mp h2
        · intro h; exact ⟨progL_sub.subset h, (anyR r (progL_sub.subset h)).mpr h⟩
      rw [ef] at p3
      have XE := XD.same sE
      have hl2E := sE _ _ hl2'
      have p2E : Paired (RecAt K HE) ts2 (progL B2) := Paired.imp2 (fun _ _ z => z.same sE) p2
      have p3E : Paired (RecAt K HE) ts3 (progL B2) := Paired.imp2 (fun _ _ z => z.same sE) p3
      refine ⟨_, _, .lst (SqL.of hl2E) (recs_dp p2E), .lst (SqL.of hDl) (recs_dp p3E), recs_sh gL, recs_sh gL, _, rfl, ?_⟩
      rw [recs_eqv gL]
      refine iteF ⟨by show 0 ≤ sizeLine; decide, fun kp hkp => ?_⟩
      have sF := same_new (o := .lst []) hkp
      have XF := XE.same sF
      have hkpF : (upd HE kp (.lst [])) kp = some (.lst []) := upd_same
      have nk := tape_ne XE.t hkp
      have k1 : tl ≠ kp := ne_of_none XE.a hkp
      have k2 : wl ≠ kp := ne_of_none XE.c hkp
      have k3 : dl ≠ kp := ne_of_none XE.e hkp
      have k4 : lf ≠ kp := ne_of_none XE.g hkp
      have k5 : l2 ≠ kp := ne_of_none hl2E hkp
      have n2 : l2 ≠ tp := (tape_ne XC.t hl2).1
      have hl2F := sF _ _ hl2E
      have p2F : Paired (RecAt K (upd HE kp (.lst []))) ts2 (progL B2) := Paired.imp2 (fun _ _ z => z.same sF) p2E
      generalize upd HE kp (.lst []) = HF at XF hkpF hl2F p2F
      refine ⟨_, rfl, lf, rfl, ⟨_, SqL.of XF.g⟩, ?_⟩
      refine for_list (K := K) (a := lf) (xs := tf.map V.ref) (fun j σ Hx => ∃ (v10 : Option V) (tc : List Addr) (Cs : List Rc), σ = [some (.ref a), some (.ref tp), some (.ref rl), some (.ref tl), some (.ref wl), some (.ref dl), some (.ref lf), some (.int (0 + (i : Int))), some (.ref pz), some (.ref l2), v10, some (.ref kp)] ∧ LX K tp q tl wl dl lf qs (topicsL rs) vp (viewsL rs) xs (seenD rs (viewsL rs) (topicsL rs)) tf B2 Hx ∧ Hx kp = some (.lst (tc.map V.ref)) ∧ Paired (RecAt K Hx) tc Cs ∧ Cs.Sublist (B2.take j) ∧ (∀ r ∈ B2.take j, r ∈ progL B2 → r ∈ Cs) ∧ Hx l2 = some (.lst (ts2.map V.ref)) ∧ Paired (RecAt K Hx) ts2 (progL B2))
        ⟨_, [], [], rfl, XF, hkpF, .nil, by rw [List.take_zero]; exact List.Sublist.refl [], (fun r hr => by simp at hr), hl2F, p2F⟩ (fun j σ' Hx _ ⟨_, _, _, _, X, _⟩ => SqL.of X.g) ?_ ?_
      · rintro j y σ' HG hy ⟨v10, tc, Cs, rfl, XG, hkpG, pC, subC, hasC, hl2G, p2G⟩
        obtain ⟨t, hti, rfl⟩ := map_get hy
        obtain ⟨r, hri, hrt⟩ := paired_at XG.i hti
        have hrm := List.mem_of_getElem? hri
        have tkB : B2.take (j + 1) = B2.take j ++ [r] := by rw [List.take_add_one, hri]; rfl
        have gC : ∀ r ∈ Cs, RGood r := fun x hx => gB x (List.mem_of_mem_take (subC.subset hx))
        have tcl := pC.length
        have cl : Cs.length ≤ 30 := Nat.le_trans (Nat.le_trans subC.length_le (List.length_take_le _ _)) (by
          have := (List.getElem?_eq_some_iff.mp hri).1
          omega)
        refine ⟨fun b Hx => (b = false → r ∉ progL B2) ∧ Off [tp] HG Hx ∧ TapeQ K Hx tp q, ?_, ?_⟩
        · refine ⟨_, rfl, _, rfl, _, _, hrt.dp, .lst (SqL.of hl2G) (recs_dp p2G), (gB r hrm).sh, recs_sh gL, _, rfl, ?_⟩
          cases c : ((progL B2).map recDt).any (fun z => PyData.eqv z (recDt r)) with
          | true => exact iteT ⟨(fun e => by cases e), Off.refl _, XG.t⟩
          | false =>
            have nr : r ∉ progL B2 := fun h => by
              have := (anyR r hrm).mpr h
              rw [c] at this; cases this
            exact iteF ⟨_, rfl, tp, q, 3, rfl, XG.t, by decide, by decide, fun z Hx z0 z1 oz tz => ⟨rfl, _, rfl, fun _ => nr, oz, tz⟩⟩
        rintro b HH ⟨hb, oH, tH⟩
        have XH := XG.off nt.1 nw.1 nd.1 nlf gD gB oH tH
        have tkH := XG.t.tk oH
        have hkpH := oH _ _ hkpG (by simpa using nk.1)
        have pCH := paired_rtk tkH gC pC
        have hl2H := oH _ _ hl2G (by simpa using n2)
        have p2H := paired_rtk tkH gL p2G
        have hrtH := hrt.tk (gB r hrm) tkH
        cases b with
        | false =>
          have nr := hb rfl
          refine iteF ⟨_, tc, Cs, rfl, XH, hkpH, pCH, by rw [tkB]; exact subC.trans (List.sublist_append_left _ _), fun x hx hxl => ?_, hl2H, p2H⟩
          rw [tkB] at hx
          rcases List.mem_append.mp hx with hx | hx
          · exact hasC x hx hxl
          · rw [List.mem_singleton.mp hx] at hxl; exact absurd hxl nr
        | true =>
          refine iteT ⟨_, rfl, .inl ⟨rfl, _, SqL.of hkpH⟩, _, rfl, nil_ ⟨kp, _, _, rfl, rfl, hkpH, by rw [List.length_map]; exact small1000 (by omega), ?_⟩⟩
          have tkp := tk_lst (xs' := (tc ++ [t]).map V.ref) hkpH
          have XI := XH.put (l' := (tc ++ [t]).map V.ref) gD gB hkpH nk.1 nk.2 k1 k2 k3 k4
          have pCI := paired_rtk tkp (fun x hx => by
            rcases List.mem_append.mp hx with hx | hx
            · exact gC x hx
            · rw [List.mem_singleton.mp hx]; exact gB r hrm) (paired_append pCH (.cons hrtH .nil))
          have p2I := paired_rtk tkp gL p2H
          rw [List.map_append] at XI pCI p2I
          refine ⟨_, tc ++ [t], Cs ++ [r], rfl, XI, by rw [List.map_append]; exact upd_same, pCI, by rw [tkB]; exact subC.append (List.Sublist.refl [r]), fun x hx hxl => ?_, by rw [upd_ne k5]; exact hl2H, p2I⟩
          rw [tkB] at hx
          rcases List.mem_append.mp hx with hx | hx
          · exact List.mem_append.mpr (.inl (hasC x hx hxl))
          · exact List.mem_append.mpr (.inr hx)
      · rintro σ' HG ⟨v10, tc, Cs, rfl, XG, hkpG, pC, subC, hasC, hl2G, p2G⟩
        rw [List.length_map, tfl, List.take_length] at subC hasC
        have kept : Kept B2 Cs := kept_of aB subC fun r hr => hasC r (progL_sub.subset hr) hr
        exact ⟨_, rfl, _, _, _, _, _, kp, tc, Cs, rfl, XG.left hkpG pC, nk.1, S.step kept, subC.trans sub⟩
    rintro σ H9 ⟨v7, v8, v9, v10, v11, lf, tf, B, rfl, X9, nlf, S, sub⟩
    have aB : B.Pairwise (fun x y => x.o < y.o) := asc.sublist sub
    have gB : ∀ r ∈ B, RGood r := fun r hr => hg r (sub.subset hr)
    have lB : B.length ≤ 30 := Nat.le_trans sub.length_le rl30
    obtain ⟨hRA, hexB, eD, hexI⟩ := seenOk X9 S aB gB lB X9.g
    refine ⟨_, rfl, _, rfl, _, rfl, lf, tl, wl, tf, B, qs, topicsL rs, vp, viewsL rs, rfl, hRA, SqL.of X9.a, X9.b, hkf, SqL.of X9.c, X9.d, by omega, by omega, hexB, fun l1 ys HB sB hl1 hl1' dy => ?_⟩
    rw [eD] at dy
    have XB := X9.same sB
    refine ⟨_, rfl, _, _, .lst (SqL.of hl1') dy, .lst (SqL.of XB.e) XB.f, shD, shD, ?_⟩
    rw [eqD]
    exact ⟨_, rfl, iteT ⟨_, rfl, _, rfl, lf, wl, tf, B, vp, viewsL rs, rfl, recsAt_same hRA sB, SqL.of XB.c, XB.d, by omega, viewsL_nodup, hexI, fun Hx sx => kk Hx⟩⟩
end
end Sg

set_option Elab.async false
set_option linter.all false
set_option maxRecDepth 100000
set_option maxHeartbeats 8000000
namespace Sg
open PySem PySem.Spec PyProof.Rows L2
theorem all_mk {l : PySem.W.OpenLaw} {w : World} {K : PySem.W.Frag} {h : Heap} {mg : Str → Option Value} {fa C fMI fMT fMA fML fMS fMB fMH fME fW fFi fAn fEf fOn fEk fVa fSo fNu fLi fLo fVi fN fLF fLR fLE fLV fLT fLW fSE fDU fSN fL aHT : Addr} (X : K.In h) (G : h.Ns mainGlobals mg) (hfa : mg "law" = some (.ref fa))
    {odMI anMI odMT anMT odMA anMA odML anML odMS anMS odMB anMB odMH anMH odME anME odW anW odFi anFi odAn anAn odEf anEf odOn anOn odEk anEk odVa anVa odSo anSo odNu anNu odLi anLi odLo anLo odVi anVi odN anN odLF anLF odLR anLR odLE anLE odLV anLV odLT anLT odLW anLW odSE anSE odDU anDU odSN anSN odL anL dHT : Option Addr} {slMI slMT slMA slML slMS slMB slMH slME slW slFi slAn slEf slOn slEk slVa slSo slNu slLi slLo slVi slN slLF slLR slLE slLV slLT slLW slSE slDU slSN slL sHT : Array (Option Value)} {ocMI kVMI dcMI pmMI cdMI ctMI ocMT kVMT dcMT pmMT cdMT ctMT ocMA kVMA dcMA pmMA cdMA ctMA ocML kVML dcML pmML cdML ctML ocMS kVMS dcMS pmMS cdMS ctMS ocMB kVMB dcMB pmMB cdMB ctMB ocMH kVMH dcMH pmMH cdMH ctMH ocME kVME dcME pmME cdME ctME ocW kVW dcW pmW cdW ctW ocFi kVFi dcFi pmFi cdFi ctFi ocAn kVAn dcAn pmAn cdAn ctAn ocEf kVEf dcEf pmEf cdEf ctEf ocOn kVOn dcOn pmOn cdOn ctOn ocEk kVEk dcEk pmEk cdEk ctEk ocVa kVVa dcVa pmVa cdVa ctVa ocSo kVSo dcSo pmSo cdSo ctSo ocNu kVNu dcNu pmNu cdNu ctNu ocLi kVLi dcLi pmLi cdLi ctLi ocLo kVLo dcLo pmLo cdLo ctLo ocVi kVVi dcVi pmVi cdVi ctVi ocN kVN dcN pmN cdN ctN ocLF kVLF dcLF pmLF cdLF ctLF ocLR kVLR dcLR pmLR cdLR ctLR ocLE kVLE dcLE pmLE cdLE ctLE ocLV kVLV dcLV pmLV cdLV ctLV ocLT kVLT dcLT pmLT cdLT ctLT ocLW kVLW dcLW pmLW cdLW ctLW ocSE kVSE dcSE pmSE cdSE ctSE ocDU kVDU dcDU pmDU cdDU ctDU ocSN kVSN dcSN pmSN cdSN ctSN ocL kVL dcL pmL cdL ctL : Value} {tHEAD uHT_0 uHT_1 : Tok} {nHT : Nat} 
    (aC : PySem.W.nsIn K mainGlobals "Rows" = some (some (.ref C)))
    (pg : PySem.W.plainGet K C Str.empty = true)
    (hd : PySem.W.hasDictIn K C = true)
    (po : PySem.W.plainOver K C = true)
    (sa : PySem.W.findIn K (.ref C) "__setattr__" = some (some (.builtin "object.__setattr__")))
    (mk : PySem.W.makesIn K C = true)
    (kc : PySem.W.keepIn K (.ref C) = true)
    (n1 : PySem.W.findIn K (.ref C) "ordered" = some none)
    (n2 : PySem.W.findIn K (.ref C) "present" = some none)
    (n3 : PySem.W.findIn K (.ref C) "_by_topic" = some none)
    (n4 : PySem.W.findIn K (.ref C) "_begins" = some none)
    (n5 : PySem.W.findIn K (.ref C) "_snapshots" = some none)
    (aMI : PySem.W.findIn K (.ref C) "__init__" = some (some (.ref fMI)))
    (iMI : PySem.W.isFn K (.ref fMI) = true)
    (lMI : K.lookup fMI = some ⟨ocMI, odMI, .func (PySem.W.fnOf "__init__" "Rows.__init__" (defArgs (cR 0)) (defBody (cR 0)) (defScope (cR 0)) .none kVMI dcMI pmMI anMI cdMI ctMI), slMI⟩)
    (cMI : PySem.W.codeIn K cdMI "Rows.__init__" = true)
    (kMI : PySem.W.keepIn K (.ref fMI) = true)
    (aMT : PySem.W.findIn K (.ref C) "topics" = some (some (.ref fMT)))
    (iMT : PySem.W.isFn K (.ref fMT) = true)
    (lMT : K.lookup fMT = some ⟨ocMT, odMT, .func (PySem.W.fnOf "topics" "Rows.topics" (defArgs (cR 1)) (defBody (cR 1)) (defScope (cR 1)) .none kVMT dcMT pmMT anMT cdMT ctMT), slMT⟩)
    (cMT : PySem.W.codeIn K cdMT "Rows.topics" = true)
    (kMT : PySem.W.keepIn K (.ref fMT) = true)
    (aMA : PySem.W.findIn K (.ref C) "all_of" = some (some (.ref fMA)))
    (iMA : PySem.W.isFn K (.ref fMA) = true)
    (lMA : K.lookup fMA = some ⟨ocMA, odMA, .func (PySem.W.fnOf "all_of" "Rows.all_of" (defArgs (cR 2)) (defBody (cR 2)) (defScope (cR 2)) .none kVMA dcMA pmMA anMA cdMA ctMA), slMA⟩)
    (cMA : PySem.W.codeIn K cdMA "Rows.all_of" = true)
    (kMA : PySem.W.keepIn K (.ref fMA) = true)
    (aML : PySem.W.findIn K (.ref C) "last_shown" = some (some (.ref fML)))
    (iML : PySem.W.isFn K (.ref fML) = true)
    (lML : K.lookup fML = some ⟨ocML, odML, .func (PySem.W.fnOf "last_shown" "Rows.last_shown" (defArgs (cR 3)) (defBody (cR 3)) (defScope (cR 3)) .none kVML dcML pmML anML cdML ctML), slML⟩)
    (cML : PySem.W.codeIn K cdML "Rows.last_shown" = true)
    (kML : PySem.W.keepIn K (.ref fML) = true)
    (aMS : PySem.W.findIn K (.ref C) "snapshots" = some (some (.ref fMS)))
    (iMS : PySem.W.isFn K (.ref fMS) = true)
    (lMS : K.lookup fMS = some ⟨ocMS, odMS, .func (PySem.W.fnOf "snapshots" "Rows.snapshots" (defArgs (cR 4)) (defBody (cR 4)) (defScope (cR 4)) .none kVMS dcMS pmMS anMS cdMS ctMS), slMS⟩)
    (cMS : PySem.W.codeIn K cdMS "Rows.snapshots" = true)
    (kMS : PySem.W.keepIn K (.ref fMS) = true)
    (aMB : PySem.W.findIn K (.ref C) "begins" = some (some (.ref fMB)))
    (iMB : PySem.W.isFn K (.ref fMB) = true)
    (lMB : K.lookup fMB = some ⟨ocMB, odMB, .func (PySem.W.fnOf "begins" "Rows.begins" (defArgs (cR 5)) (defBody (cR 5)) (defScope (cR 5)) .none kVMB dcMB pmMB anMB cdMB ctMB), slMB⟩)
    (cMB : PySem.W.codeIn K cdMB "Rows.begins" = true)
    (kMB : PySem.W.keepIn K (.ref fMB) = true)
    (aMH : PySem.W.findIn K (.ref C) "_is_hidden" = some (some (.ref fMH)))
    (iMH : PySem.W.isFn K (.ref fMH) = true)
    (lMH : K.lookup fMH = some ⟨ocMH, odMH, .func (PySem.W.fnOf "_is_hidden" "Rows._is_hidden" (defArgs (cR 6)) (defBody (cR 6)) (defScope (cR 6)) .none kVMH dcMH pmMH anMH cdMH ctMH), slMH⟩)
    (cMH : PySem.W.codeIn K cdMH "Rows._is_hidden" = true)
    (kMH : PySem.W.keepIn K (.ref fMH) = true)
    (aME : PySem.W.findIn K (.ref C) "_snapshot_exists" = some (some (.ref fME)))
    (iME : PySem.W.isFn K (.ref fME) = true)
    (lME : K.lookup fME = some ⟨ocME, odME, .func (PySem.W.fnOf "_snapshot_exists" "Rows._snapshot_exists" (defArgs (cR 7)) (defBody (cR 7)) (defScope (cR 7)) .none kVME dcME pmME anME cdME ctME), slME⟩)
    (cME : PySem.W.codeIn K cdME "Rows._snapshot_exists" = true)
    (kME : PySem.W.keepIn K (.ref fME) = true)
    (aW : PySem.W.nsIn K mainGlobals "is_whole" = some (some (.ref fW)))
    (lW : K.lookup fW = some ⟨ocW, odW, .func (PySem.W.fnOf "is_whole" "is_whole" (defArgs sWhole) (defBody sWhole) (defScope sWhole) .none kVW dcW pmW anW cdW ctW), slW⟩)
    (cW : PySem.W.codeIn K cdW "is_whole" = true)
    (kW : PySem.W.keepIn K (.ref fW) = true)
    (aFi : PySem.W.nsIn K mainGlobals "fields_of" = some (some (.ref fFi)))
    (lFi : K.lookup fFi = some ⟨ocFi, odFi, .func (PySem.W.fnOf "fields_of" "fields_of" (defArgs sFieldsOf) (defBody sFieldsOf) (defScope sFieldsOf) .none kVFi dcFi pmFi anFi cdFi ctFi), slFi⟩)
    (cFi : PySem.W.codeIn K cdFi "fields_of" = true)
    (kFi : PySem.W.keepIn K (.ref fFi) = true)
    (aAn : PySem.W.nsIn K mainGlobals "answer_of" = some (some (.ref fAn)))
    (lAn : K.lookup fAn = some ⟨ocAn, odAn, .func (PySem.W.fnOf "answer_of" "answer_of" (defArgs sAnswerOf) (defBody sAnswerOf) (defScope sAnswerOf) .none kVAn dcAn pmAn anAn cdAn ctAn), slAn⟩)
    (cAn : PySem.W.codeIn K cdAn "answer_of" = true)
    (kAn : PySem.W.keepIn K (.ref fAn) = true)
    (aEf : PySem.W.nsIn K mainGlobals "effects" = some (some (.ref fEf)))
    (lEf : K.lookup fEf = some ⟨ocEf, odEf, .func (PySem.W.fnOf "effects" "effects" (defArgs sEffects) (defBody sEffects) (defScope sEffects) .none kVEf dcEf pmEf anEf cdEf ctEf), slEf⟩)
    (cEf : PySem.W.codeIn K cdEf "effects" = true)
    (kEf : PySem.W.keepIn K (.ref fEf) = true)
    (aOn : PySem.W.nsIn K mainGlobals "each_once" = some (some (.ref fOn)))
    (lOn : K.lookup fOn = some ⟨ocOn, odOn, .func (PySem.W.fnOf "each_once" "each_once" (defArgs sOnce) (defBody sOnce) (defScope sOnce) .none kVOn dcOn pmOn anOn cdOn ctOn), slOn⟩)
    (cOn : PySem.W.codeIn K cdOn "each_once" = true)
    (kOn : PySem.W.keepIn K (.ref fOn) = true)
    (aEk : PySem.W.nsIn K mainGlobals "_effects_of_kind" = some (some (.ref fEk)))
    (lEk : K.lookup fEk = some ⟨ocEk, odEk, .func (PySem.W.fnOf "_effects_of_kind" "_effects_of_kind" (defArgs sEffKind) (defBody sEffKind) (defScope sEffKind) .none kVEk dcEk pmEk anEk cdEk ctEk), slEk⟩)
    (cEk : PySem.W.codeIn K cdEk "_effects_of_kind" = true)
    (kEk : PySem.W.keepIn K (.ref fEk) = true)
    (aVa : PySem.W.nsIn K mainGlobals "value_at" = some (some (.ref fVa)))
    (lVa : K.lookup fVa = some ⟨ocVa, odVa, .func (PySem.W.fnOf "value_at" "value_at" (defArgs sValueAt) (defBody sValueAt) (defScope sValueAt) .none kVVa dcVa pmVa anVa cdVa ctVa), slVa⟩)
    (cVa : PySem.W.codeIn K cdVa "value_at" = true)
    (kVa : PySem.W.keepIn K (.ref fVa) = true)
    (aSo : PySem.W.nsIn K mainGlobals "snapshots_of" = some (some (.ref fSo)))
    (lSo : K.lookup fSo = some ⟨ocSo, odSo, .func (PySem.W.fnOf "snapshots_of" "snapshots_of" (defArgs sSnapsOf) (defBody sSnapsOf) (defScope sSnapsOf) .none kVSo dcSo pmSo anSo cdSo ctSo), slSo⟩)
    (cSo : PySem.W.codeIn K cdSo "snapshots_of" = true)
    (kSo : PySem.W.keepIn K (.ref fSo) = true)
    (aNu : PySem.W.nsIn K mainGlobals "_number_of" = some (some (.ref fNu)))
    (lNu : K.lookup fNu = some ⟨ocNu, odNu, .func (PySem.W.fnOf "_number_of" "_number_of" (defArgs sNumberOf) (defBody sNumberOf) (defScope sNumberOf) .none kVNu dcNu pmNu anNu cdNu ctNu), slNu⟩)
    (cNu : PySem.W.codeIn K cdNu "_number_of" = true)
    (kNu : PySem.W.keepIn K (.ref fNu) = true)
    (aLi : PySem.W.nsIn K mainGlobals "live_records" = some (some (.ref fLi)))
    (lLi : K.lookup fLi = some ⟨ocLi, odLi, .func (PySem.W.fnOf "live_records" "live_records" (defArgs sLiveRecs) (defBody sLiveRecs) (defScope sLiveRecs) .none kVLi dcLi pmLi anLi cdLi ctLi), slLi⟩)
    (cLi : PySem.W.codeIn K cdLi "live_records" = true)
    (kLi : PySem.W.keepIn K (.ref fLi) = true)
    (aLo : PySem.W.nsIn K mainGlobals "_live_orders" = some (some (.ref fLo)))
    (lLo : K.lookup fLo = some ⟨ocLo, odLo, .func (PySem.W.fnOf "_live_orders" "_live_orders" (defArgs sLiveOrd) (defBody sLiveOrd) (defScope sLiveOrd) .none kVLo dcLo pmLo anLo cdLo ctLo), slLo⟩)
    (cLo : PySem.W.codeIn K cdLo "_live_orders" = true)
    (kLo : PySem.W.keepIn K (.ref fLo) = true)
    (aVi : PySem.W.nsIn K mainGlobals "_views" = some (some (.ref fVi)))
    (lVi : K.lookup fVi = some ⟨ocVi, odVi, .func (PySem.W.fnOf "_views" "_views" (defArgs sViews) (defBody sViews) (defScope sViews) .none kVVi dcVi pmVi anVi cdVi ctVi), slVi⟩)
    (cVi : PySem.W.codeIn K cdVi "_views" = true)
    (kVi : PySem.W.keepIn K (.ref fVi) = true)
    (aN : PySem.W.nsIn K mainGlobals "_law_next" = some (some (.ref fN)))
    (lN : K.lookup fN = some ⟨ocN, odN, .func (PySem.W.fnOf "_law_next" "_law_next" (defArgs sNext) (defBody sNext) (defScope sNext) .none kVN dcN pmN anN cdN ctN), slN⟩)
    (cN : PySem.W.codeIn K cdN "_law_next" = true)
    (kN : PySem.W.keepIn K (.ref fN) = true)
    (aLF : PySem.W.nsIn K mainGlobals "_law_fields" = some (some (.ref fLF)))
    (lLF : K.lookup fLF = some ⟨ocLF, odLF, .func (PySem.W.fnOf "_law_fields" "_law_fields" (defArgs sLFields) (defBody sLFields) (defScope sLFields) .none kVLF dcLF pmLF anLF cdLF ctLF), slLF⟩)
    (cLF : PySem.W.codeIn K cdLF "_law_fields" = true)
    (kLF : PySem.W.keepIn K (.ref fLF) = true)
    (aLR : PySem.W.nsIn K mainGlobals "_law_records" = some (some (.ref fLR)))
    (lLR : K.lookup fLR = some ⟨ocLR, odLR, .func (PySem.W.fnOf "_law_records" "_law_records" (defArgs sLRecords) (defBody sLRecords) (defScope sLRecords) .none kVLR dcLR pmLR anLR cdLR ctLR), slLR⟩)
    (cLR : PySem.W.codeIn K cdLR "_law_records" = true)
    (kLR : PySem.W.keepIn K (.ref fLR) = true)
    (aLE : PySem.W.nsIn K mainGlobals "_law_effects" = some (some (.ref fLE)))
    (lLE : K.lookup fLE = some ⟨ocLE, odLE, .func (PySem.W.fnOf "_law_effects" "_law_effects" (defArgs sLEffects) (defBody sLEffects) (defScope sLEffects) .none kVLE dcLE pmLE anLE cdLE ctLE), slLE⟩)
    (cLE : PySem.W.codeIn K cdLE "_law_effects" = true)
    (kLE : PySem.W.keepIn K (.ref fLE) = true)
    (aLV : PySem.W.nsIn K mainGlobals "_law_value" = some (some (.ref fLV)))
    (lLV : K.lookup fLV = some ⟨ocLV, odLV, .func (PySem.W.fnOf "_law_value" "_law_value" (defArgs sLValue) (defBody sLValue) (defScope sLValue) .none kVLV dcLV pmLV anLV cdLV ctLV), slLV⟩)
    (cLV : PySem.W.codeIn K cdLV "_law_value" = true)
    (kLV : PySem.W.keepIn K (.ref fLV) = true)
    (aLT : PySem.W.nsIn K mainGlobals "_law_topics" = some (some (.ref fLT)))
    (lLT : K.lookup fLT = some ⟨ocLT, odLT, .func (PySem.W.fnOf "_law_topics" "_law_topics" (defArgs sLTopics) (defBody sLTopics) (defScope sLTopics) .none kVLT dcLT pmLT anLT cdLT ctLT), slLT⟩)
    (cLT : PySem.W.codeIn K cdLT "_law_topics" = true)
    (kLT : PySem.W.keepIn K (.ref fLT) = true)
    (aLW : PySem.W.nsIn K mainGlobals "_law_views" = some (some (.ref fLW)))
    (lLW : K.lookup fLW = some ⟨ocLW, odLW, .func (PySem.W.fnOf "_law_views" "_law_views" (defArgs sLViews) (defBody sLViews) (defScope sLViews) .none kVLW dcLW pmLW anLW cdLW ctLW), slLW⟩)
    (cLW : PySem.W.codeIn K cdLW "_law_views" = true)
    (kLW : PySem.W.keepIn K (.ref fLW) = true)
    (aSE : PySem.W.nsIn K mainGlobals "_law_seen" = some (some (.ref fSE)))
    (lSE : K.lookup fSE = some ⟨ocSE, odSE, .func (PySem.W.fnOf "_law_seen" "_law_seen" (defArgs sLSeen) (defBody sLSeen) (defScope sLSeen) .none kVSE dcSE pmSE anSE cdSE ctSE), slSE⟩)
    (cSE : PySem.W.codeIn K cdSE "_law_seen" = true)
    (kSE : PySem.W.keepIn K (.ref fSE) = true)
    (aDU : PySem.W.nsIn K mainGlobals "_law_due" = some (some (.ref fDU)))
    (lDU : K.lookup fDU = some ⟨ocDU, odDU, .func (PySem.W.fnOf "_law_due" "_law_due" (defArgs sLDue) (defBody sLDue) (defScope sLDue) .none kVDU dcDU pmDU anDU cdDU ctDU), slDU⟩)
    (cDU : PySem.W.codeIn K cdDU "_law_due" = true)
    (kDU : PySem.W.keepIn K (.ref fDU) = true)
    (aSN : PySem.W.nsIn K mainGlobals "_law_snapshots" = some (some (.ref fSN)))
    (lSN : K.lookup fSN = some ⟨ocSN, odSN, .func (PySem.W.fnOf "_law_snapshots" "_law_snapshots" (defArgs sLSnaps) (defBody sLSnaps) (defScope sLSnaps) .none kVSN dcSN pmSN anSN cdSN ctSN), slSN⟩)
    (cSN : PySem.W.codeIn K cdSN "_law_snapshots" = true)
    (kSN : PySem.W.keepIn K (.ref fSN) = true)
    (aL : PySem.W.nsIn K mainGlobals "law" = some (some (.ref fL)))
    (lL : K.lookup fL = some ⟨ocL, odL, .func (PySem.W.fnOf "law" "law" (defArgs sLaw) (defBody sLaw) (defScope sLaw) .none kVL dcL pmL anL cdL ctL), slL⟩)
    (cL : PySem.W.codeIn K cdL "law" = true)
    (kL : PySem.W.keepIn K (.ref fL) = true)
    (gHEAD : PySem.W.nsIn K mainGlobals "HEAD" = some (some (.int 5 tHEAD)))
    (gHOST_TOPICS : PySem.W.nsIn K mainGlobals "HOST_TOPICS" = some (some (.ref aHT)))
    (lHT : K.lookup aHT = some ⟨.type "tuple", dHT, .seq #[.str "host" uHT_0, .str "told" uHT_1] nHT, sHT⟩)
    (z_len : PySem.W.nsIn K mainGlobals "len" = some none)
    (z_abs : PySem.W.nsIn K mainGlobals "abs" = some none)
    (z_int : PySem.W.nsIn K mainGlobals "int" = some none)
    (z_list : PySem.W.nsIn K mainGlobals "list" = some none)
    (z_range : PySem.W.nsIn K mainGlobals "range" = some none)
    (z_tuple : PySem.W.nsIn K mainGlobals "tuple" = some none)
    (z_sorted : PySem.W.nsIn K mainGlobals "sorted" = some none)
    (z_any : PySem.W.nsIn K mainGlobals "any" = some none)
    (z_isinstance : PySem.W.nsIn K mainGlobals "isinstance" = some none)
    (z_bool : PySem.W.nsIn K mainGlobals "bool" = some none)
    : ∃ fd : FuncData, (∀ (s : Shared) (v : Value), BindsTo s fd ⟨[v], []⟩ [("script", v)]) ∧ ∀ base : Heap, K.In base → base.Ns mainGlobals mg → FnOk l.prog w K mg base CX0 8 fa fd ["script"] (spLaw K) := by
  have e := hfa.symm.trans (PySem.W.mg_of X G aL)
  cases e
  have B : BN mg := ⟨PySem.W.mg_none_of X G z_len, PySem.W.mg_none_of X G z_abs, PySem.W.mg_none_of X G z_int, PySem.W.mg_none_of X G z_list, PySem.W.mg_none_of X G z_range, PySem.W.mg_none_of X G z_tuple, PySem.W.mg_none_of X G z_sorted, PySem.W.mg_none_of X G z_any, PySem.W.mg_none_of X G z_isinstance, PySem.W.mg_none_of X G z_bool⟩
  have Tx : CT K mg C := ⟨⟨pg, hd, po, sa⟩, n1, n2, n3, n4, n5, PySem.W.mg_of X G aC⟩
  have hHD : ∃ t, mg "HEAD" = some (Value.int 5 t) := ⟨_, PySem.W.mg_of X G gHEAD⟩
  have gHT := PySem.W.mg_of X G gHOST_TOPICS
  have tHT : ∀ H, SqT K H aHT [.str "host", .str "told"] := fun H => (.inr ⟨_, _, _, lHT, rfl, rfl, (show (2 : Nat) ≤ sizeLine by decide), (.cons ⟨_, rfl⟩ (.cons ⟨_, rfl⟩ .nil))⟩)
  have FMI := fun_mk (st := (cR 0)) lMI cMI kMI
  have FMT := fun_mk (st := (cR 1)) lMT cMT kMT
  have FMA := fun_mk (st := (cR 2)) lMA cMA kMA
  have FML := fun_mk (st := (cR 3)) lML cML kML
  have FMS := fun_mk (st := (cR 4)) lMS cMS kMS
  have FMB := fun_mk (st := (cR 5)) lMB cMB kMB
  have FMH := fun_mk (st := (cR 6)) lMH cMH kMH
  have FME := fun_mk (st := (cR 7)) lME cME kME
  have FW := fun_mk (st := sWhole) lW cW kW
  have FFi := fun_mk (st := sFieldsOf) lFi cFi kFi
  have FAn := fun_mk (st := sAnswerOf) lAn cAn kAn
  have FEf := fun_mk (st := sEffects) lEf cEf kEf
  have FOn := fun_mk (st := sOnce) lOn cOn kOn
  have FEk := fun_mk (st := sEffKind) lEk cEk kEk
  have FVa := fun_mk (st := sValueAt) lVa cVa kVa
  have FSo := fun_mk (st := sSnapsOf) lSo cSo kSo
  have FNu := fun_mk (st := sNumberOf) lNu cNu kNu
  have FLi := fun_mk (st := sLiveRecs) lLi cLi kLi
  have FLo := fun_mk (st := sLiveOrd) lLo cLo kLo
  have FVi := fun_mk (st := sViews) lVi cVi kVi
  have FN := fun_mk (st := sNext) lN cN kN
  have FLF := fun_mk (st := sLFields) lLF cLF kLF
  have FLR := fun_mk (st := sLRecords) lLR cLR kLR
  have FLE := fun_mk (st := sLEffects) lLE cLE kLE
  have FLV := fun_mk (st := sLValue) lLV cLV kLV
  have FLT := fun_mk (st := sLTopics) lLT cLT kLT
  have FLW := fun_mk (st := sLViews) lLW cLW kLW
  have FSE := fun_mk (st := sLSeen) lSE cSE kSE
  have FDU := fun_mk (st := sLDue) lDU cDU kDU
  have FSN := fun_mk (st := sLSnaps) lSN cSN kSN
  have FL := fun_mk (st := sLaw) lL cL kL
  have bMI := FMI.binds (ps := ["self", "records"]) fun _ _ _ _ _ _ us hl => match us, hl with | [_, _], _ => rfl
  have bMT := FMT.binds (ps := ["self"]) fun _ _ _ _ _ _ us hl => match us, hl with | [_], _ => rfl
  have bMA := FMA.binds (ps := ["self", "topic"]) fun _ _ _ _ _ _ us hl => match us, hl with | [_, _], _ => rfl
  have bML := FML.binds (ps := ["self", "topic", "number"]) fun _ _ _ _ _ _ us hl => match us, hl with | [_, _, _], _ => rfl
  have bMS := FMS.binds (ps := ["self", "namespace"]) fun _ _ _ _ _ _ us hl => match us, hl with | [_, _], _ => rfl
  have bMB := FMB.binds (ps := ["self", "namespace"]) fun _ _ _ _ _ _ us hl => match us, hl with | [_, _], _ => rfl
  have bMH := FMH.binds (ps := ["self", "topic", "order", "number"]) fun _ _ _ _ _ _ us hl => match us, hl with | [_, _, _, _], _ => rfl
  have bME := FME.binds (ps := ["self", "topic"]) fun _ _ _ _ _ _ us hl => match us, hl with | [_, _], _ => rfl
  have bW := FW.binds (ps := ["value"]) fun _ _ _ _ _ _ us hl => match us, hl with | [_], _ => rfl
  have bFi := FFi.binds (ps := ["record"]) fun _ _ _ _ _ _ us hl => match us, hl with | [_], _ => rfl
  have bAn := FAn.binds (ps := ["record"]) fun _ _ _ _ _ _ us hl => match us, hl with | [_], _ => rfl
  have bEf := FEf.binds (ps := ["record"]) fun _ _ _ _ _ _ us hl => match us, hl with | [_], _ => rfl
  have bOn := FOn.binds (ps := ["records"]) fun _ _ _ _ _ _ us hl => match us, hl with | [_], _ => rfl
  have bEk := FEk.binds (ps := ["order", "kind", "host", "fields"]) fun _ _ _ _ _ _ us hl => match us, hl with | [_, _, _, _], _ => rfl
  have bVa := FVa.binds (ps := ["records", "topic", "snapshot"]) fun _ _ _ _ _ _ us hl => match us, hl with | [_, _, _], _ => rfl
  have bSo := FSo.binds (ps := ["records", "namespace"]) fun _ _ _ _ _ _ us hl => match us, hl with | [_, _], _ => rfl
  have bNu := FNu.binds (ps := ["rows", "snapshot"]) fun _ _ _ _ _ _ us hl => match us, hl with | [_, _], _ => rfl
  have bLi := FLi.binds (ps := ["records"]) fun _ _ _ _ _ _ us hl => match us, hl with | [_], _ => rfl
  have bLo := FLo.binds (ps := ["rows", "topic"]) fun _ _ _ _ _ _ us hl => match us, hl with | [_, _], _ => rfl
  have bVi := FVi.binds (ps := ["rows", "topic"]) fun _ _ _ _ _ _ us hl => match us, hl with | [_, _], _ => rfl
  have bN := FN.binds (ps := ["tape", "many"]) fun _ _ _ _ _ _ us hl => match us, hl with | [_, _], _ => rfl
  have bLF := FLF.binds (ps := ["tape", "spaces", "snaps"]) fun _ _ _ _ _ _ us hl => match us, hl with | [_, _, _], _ => rfl
  have bLR := FLR.binds (ps := ["tape", "most"]) fun _ _ _ _ _ _ us hl => match us, hl with | [_, _], _ => rfl
  have bLE := FLE.binds (ps := ["record"]) fun _ _ _ _ _ _ us hl => match us, hl with | [_], _ => rfl
  have bLV := FLV.binds (ps := ["records", "topic", "view"]) fun _ _ _ _ _ _ us hl => match us, hl with | [_, _, _], _ => rfl
  have bLT := FLT.binds (ps := ["records"]) fun _ _ _ _ _ _ us hl => match us, hl with | [_], _ => rfl
  have bLW := FLW.binds (ps := ["records"]) fun _ _ _ _ _ _ us hl => match us, hl with | [_], _ => rfl
  have bSE := FSE.binds (ps := ["records", "topics", "views"]) fun _ _ _ _ _ _ us hl => match us, hl with | [_, _, _], _ => rfl
  have bDU := FDU.binds (ps := ["records", "topics", "views"]) fun _ _ _ _ _ _ us hl => match us, hl with | [_, _, _], _ => rfl
  have bSN := FSN.binds (ps := ["records", "views"]) fun _ _ _ _ _ _ us hl => match us, hl with | [_, _], _ => rfl
  refine ⟨PySem.W.fnOf "law" "law" (defArgs sLaw) (defBody sLaw) (defScope sLaw) .none kVL dcL pmL anL cdL ctL, fun s v => .of_eq rfl, fun base _ _ => ?_⟩
  have mMI : Meth K C "__init__" fMI := ⟨aMI, iMI, kMI⟩
  have mMT : Meth K C "topics" fMT := ⟨aMT, iMT, kMT⟩
  have mMA : Meth K C "all_of" fMA := ⟨aMA, iMA, kMA⟩
  have mML : Meth K C "last_shown" fML := ⟨aML, iML, kML⟩
  have mMS : Meth K C "snapshots" fMS := ⟨aMS, iMS, kMS⟩
  have mMB : Meth K C "begins" fMB := ⟨aMB, iMB, kMB⟩
  have mMH : Meth K C "_is_hidden" fMH := ⟨aMH, iMH, kMH⟩
  have mME : Meth K C "_snapshot_exists" fME := ⟨aME, iME, kME⟩
  have dW := Def.mk (ok_whole (P := l.prog) (wd := w) (base := base) FW B) bW kW (PySem.W.mg_of X G aW)
  have dFi := Def.mk (ok_fieldsOf (P := l.prog) (wrl := w) (base := base) FFi hHD) bFi kFi (PySem.W.mg_of X G aFi)
  have dAn := Def.mk (ok_answerOf (P := l.prog) (wrl := w) (mg := mg) (base := base) FAn) bAn kAn (PySem.W.mg_of X G aAn)
  have dEk := Def.mk (ok_effKind (P := l.prog) (wrl := w) (mg := mg) (base := base) FEk) bEk kEk (PySem.W.mg_of X G aEk)
  have dEf := Def.mk (ok_effects FEf hHD dAn dEk dFi) bEf kEf (PySem.W.mg_of X G aEf)
  have dOn := Def.mk (ok_once (P := l.prog) (wd := w) (base := base) FOn B.sorted) bOn kOn (PySem.W.mg_of X G aOn)
  have dN := Def.mk (ok_next (P := l.prog) (wd := w) (base := base) FN B) bN kN (PySem.W.mg_of X G aN)
  have dLE := Def.mk (ok_leffects (P := l.prog) (wd := w) (mg := mg) (base := base) FLE) bLE kLE (PySem.W.mg_of X G aLE)
  have dLT := Def.mk (ok_ltopics FLT dLE) bLT kLT (PySem.W.mg_of X G aLT)
  have dLV := Def.mk (ok_lvalue FLV B dLE) bLV kLV (PySem.W.mg_of X G aLV)
  have dLX := Def.mk (ok_lvalueS FLV B dLE) bLV kLV (PySem.W.mg_of X G aLV)
  have dLW := Def.mk (ok_lviews FLW dLT dLV) bLW kLW (PySem.W.mg_of X G aLW)
  have dLF := Def.mk (ok_lfields FLF B dN) bLF kLF (PySem.W.mg_of X G aLF)
  have dLR := Def.mk (ok_lrecords FLR B dN dLF) bLR kLR (PySem.W.mg_of X G aLR)
  have dMH := Mth.mk (ok_hidden (P := l.prog) (wd := w) (base := base) FMH Tx B gHT tHT) bMH mMH
  have dML := Mth.mk (ok_lastShown FML Tx dMH) bML mML
  have dMT := Mth.mk (ok_topics (P := l.prog) (wd := w) (base := base) FMT Tx B) bMT mMT
  have dMA := Mth.mk (ok_allOf (P := l.prog) (wd := w) (base := base) FMA Tx B) bMA mMA
  have dMS := Mth.mk (ok_snaps (P := l.prog) (wd := w) (base := base) FMS Tx B) bMS mMS
  have dMB := Mth.mk (ok_begins (P := l.prog) (wd := w) (base := base) FMB Tx) bMB mMB
  have dME := Mth.mk (ok_exists FME Tx dML) bME mME
  have oI := ok_rinit FMI Tx gHT tHT dOn dEf dME
  have MK : Mk K C fMI := ⟨mk, aMI, iMI, kc⟩
  have dVi := Def.mk (ok_views FVi Tx dMS) bVi kVi (PySem.W.mg_of X G aVi)
  have dLo := Def.mk (ok_liveOrd FLo Tx dMA dMB dML dVi) bLo kLo (PySem.W.mg_of X G aLo)
  have dLi := Def.mk (ok_liveRec FLi Tx MK oI bMI dMT dLo) bLi kLi (PySem.W.mg_of X G aLi)
  have dNu := Def.mk (ok_numOf FNu Tx dW dMS) bNu kNu (PySem.W.mg_of X G aNu)
  have dVa := Def.mk (ok_valueAt FVa Tx MK oI bMI dML dNu) bVa kVa (PySem.W.mg_of X G aVa)
  have dSo := Def.mk (ok_snapsOf FSo Tx MK oI bMI dMS) bSo kSo (PySem.W.mg_of X G aSo)
  have dSE := Def.mk (ok_seen FSE dVa) bSE kSE (PySem.W.mg_of X G aSE)
  have dDU := Def.mk (ok_due FDU dLV dLX) bDU kDU (PySem.W.mg_of X G aDU)
  have dSN := Def.mk (ok_lsnaps FSN B dSo) bSN kSN (PySem.W.mg_of X G aSN)
  exact ok_law FL B dN dLR dLT dLW dDU dSE dSN dLi
/-- the law row's walk: at most 63 items -/
theorem walk_law {l : PySem.W.OpenLaw} {q : Program} {loose : List Str} {XP : (Str → Option Value) → Heap → Prop} {YP : World → Heap → Prop} {d : DefRec} {K : Params → PySem.W.Frag} (hn : l.most = some 63) (hdf : d.params.defaults = [])
    (hY : ∀ (w : World) (h : Heap), YP w h → (K w.params).In h)
    (F : ∀ (w : World) (mg : Str → Option Value) (fa : Addr) (h : Heap), (K w.params).In h → h.Ns mainGlobals mg → mg d.name = some (.ref fa) →
      ∃ fd : FuncData, (∀ (s : Shared) (u : Value), BindsTo s fd ⟨[u], []⟩ [("script", u)]) ∧ ∀ base : Heap, (K w.params).In base → base.Ns mainGlobals mg → FnOk l.prog w (K w.params) mg base CX0 8 fa fd ["script"] (spLaw (K w.params))) :
    PySem.W.WalkO q loose XP YP l.row.toRowW d [] (fun f vs => PySem.call f vs) :=
  L2.walk_of (n := 63) (k := 8) (x := "script") (CX := fun _ => CX0) (sp := fun w => spLaw (K w.params)) hn (by decide) hdf ⟨rfl, by decide, by decide⟩ hY F (fun _ _ a ns hl _ hS => ⟨a, ns, rfl, hS, hl, fun _ => rfl⟩) fun _ _ _ _ _ z => z
end Sg

set_option Elab.async false
set_option linter.all false
set_option maxRecDepth 100000
set_option maxHeartbeats 8000000
open PySem PySem.W PyProof.Rows
set_option maxRecDepth 100000 in
set_option maxHeartbeats 0 in
theorem PySem.Challenge.cw_spindlegate_k13_whole_dead_records_can_b_holds : PySem.Challenge.rw_spindlegate_k13_whole_dead_records_can_b.Holds := by
  w_on; o_law; k_head; (case hw => w_witness2)
  k_fill
  refine Sg.walk_law (l := PySem.Challenge.rw_spindlegate_k13_whole_dead_records_can_b) rfl rfl (fun w h Y => PySem.W.kIn_of Y) ?F
  case F =>
    intro w mg fa h KX G hmg
    refine' Sg.all_mk KX G hmg ?aC ?pg ?hd ?po ?sa ?mk ?kc ?n1 ?n2 ?n3 ?n4 ?n5 ?aMI ?iMI ?lMI ?cMI ?kMI ?aMT ?iMT ?lMT ?cMT ?kMT ?aMA ?iMA ?lMA ?cMA ?kMA ?aML ?iML ?lML ?cML ?kML ?aMS ?iMS ?lMS ?cMS ?kMS ?aMB ?iMB ?lMB ?cMB ?kMB ?aMH ?iMH ?lMH ?cMH ?kMH ?aME ?iME ?lME ?cME ?kME ?aW ?lW ?cW ?kW ?aFi ?lFi ?cFi ?kFi ?aAn ?lAn ?cAn ?kAn ?aEf ?lEf ?cEf ?kEf ?aOn ?lOn ?cOn ?kOn ?aEk ?lEk ?cEk ?kEk ?aVa ?lVa ?cVa ?kVa ?aSo ?lSo ?cSo ?kSo ?aNu ?lNu ?cNu ?kNu ?aLi ?lLi ?cLi ?kLi ?aLo ?lLo ?cLo ?kLo ?aVi ?lVi ?cVi ?kVi ?aN ?lN ?cN ?kN ?aLF ?lLF ?cLF ?kLF ?aLR ?lLR ?cLR ?kLR ?aLE ?lLE ?cLE ?kLE ?aLV ?lLV ?cLV ?kLV ?aLT ?lLT ?cLT ?kLT ?aLW ?lLW ?cLW ?kLW ?aSE ?lSE ?cSE ?kSE ?aDU ?lDU ?cDU ?kDU ?aSN ?lSN ?cSN ?kSN ?aL ?lL ?cL ?kL ?gHEAD ?gHOST_TOPICS ?lHT ?z_len ?z_abs ?z_int ?z_list ?z_range ?z_tuple ?z_sorted ?z_any ?z_isinstance ?z_bool
    (case aC => k_is)
    (case pg => k_is)
    (case hd => k_is)
    (case po => k_is)
    (case sa => k_is)
    (case mk => k_is)
    (case kc => k_is)
    (case n1 => k_is)
    (case n2 => k_is)
    (case n3 => k_is)
    (case n4 => k_is)
    (case n5 => k_is)
    (case aMI => k_is)
    (case iMI => k_is)
    (case lMI => k_is)
    (case cMI => k_is)
    (case kMI => k_is)
    (case aMT => k_is)
    (case iMT => k_is)
    (case lMT => k_is)
    (case cMT => k_is)
    (case kMT => k_is)
    (case aMA => k_is)
    (case iMA => k_is)
    (case lMA => k_is)
    (case cMA => k_is)
    (case kMA => k_is)
    (case aML => k_is)
    (case iML => k_is)
    (case lML => k_is)
    (case cML => k_is)
    (case kML => k_is)
    (case aMS => k_is)
    (case iMS => k_is)
    (case lMS => k_is)
    (case cMS => k_is)
    (case kMS => k_is)
    (case aMB => k_is)
    (case iMB => k_is)
    (case lMB => k_is)
    (case cMB => k_is)
    (case kMB => k_is)
    (case aMH => k_is)
    (case iMH => k_is)
    (case lMH => k_is)
    (case cMH => k_is)
    (case kMH => k_is)
    (case aME => k_is)
    (case iME => k_is)
    (case lME => k_is)
    (case cME => k_is)
    (case kME => k_is)
    (case aW => k_is)
    (case lW => k_is)
    (case cW => k_is)
    (case kW => k_is)
    (case aFi => k_is)
    (case lFi => k_is)
    (case cFi => k_is)
    (case kFi => k_is)
    (case aAn => k_is)
    (case lAn => k_is)
    (case cAn => k_is)
    (case kAn => k_is)
    (case aEf => k_is)
    (case lEf => k_is)
    (case cEf => k_is)
    (case kEf => k_is)
    (case aOn => k_is)
    (case lOn => k_is)
    (case cOn => k_is)
    (case kOn => k_is)
    (case aEk => k_is)
    (case lEk => k_is)
    (case cEk => k_is)
    (case kEk => k_is)
    (case aVa => k_is)
    (case lVa => k_is)
    (case cVa => k_is)
    (case kVa => k_is)
    (case aSo => k_is)
    (case lSo => k_is)
    (case cSo => k_is)
    (case kSo => k_is)
    (case aNu => k_is)
    (case lNu => k_is)
    (case cNu => k_is)
    (case kNu => k_is)
    (case aLi => k_is)
    (case lLi => k_is)
    (case cLi => k_is)
    (case kLi => k_is)
    (case aLo => k_is)
    (case lLo => k_is)
    (case cLo => k_is)
    (case kLo => k_is)
    (case aVi => k_is)
    (case lVi => k_is)
    (case cVi => k_is)
    (case kVi => k_is)
    (case aN => k_is)
    (case lN => k_is)
    (case cN => k_is)
    (case kN => k_is)
    (case aLF => k_is)
    (case lLF => k_is)
    (case cLF => k_is)
    (case kLF => k_is)
    (case aLR => k_is)
    (case lLR => k_is)
    (case cLR => k_is)
    (case kLR => k_is)
    (case aLE => k_is)
    (case lLE => k_is)
    (case cLE => k_is)
    (case kLE => k_is)
    (case aLV => k_is)
    (case lLV => k_is)
    (case cLV => k_is)
    (case kLV => k_is)
    (case aLT => k_is)
    (case lLT => k_is)
    (case cLT => k_is)
    (case kLT => k_is)
    (case aLW => k_is)
    (case lLW => k_is)
    (case cLW => k_is)
    (case kLW => k_is)
    (case aSE => k_is)
    (case lSE => k_is)
    (case cSE => k_is)
    (case kSE => k_is)
    (case aDU => k_is)
    (case lDU => k_is)
    (case cDU => k_is)
    (case kDU => k_is)
    (case aSN => k_is)
    (case lSN => k_is)
    (case cSN => k_is)
    (case kSN => k_is)
    (case aL => k_is)
    (case lL => k_is)
    (case cL => k_is)
    (case kL => k_is)
    (case gHEAD => k_is)
    (case gHOST_TOPICS => k_is)
    (case lHT => k_is)
    (case z_len => k_is)
    (case z_abs => k_is)
    (case z_int => k_is)
    (case z_list => k_is)
    (case z_range => k_is)
    (case z_tuple => k_is)
    (case z_sorted => k_is)
    (case z_any => k_is)
    (case z_isinstance => k_is)
    (case z_bool => k_is)

