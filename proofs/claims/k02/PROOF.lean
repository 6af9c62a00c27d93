import PyProof.Rows.All
import Wide.All
import OpenK.AllK
import Wide.FinOn
import HandS.Base
import HandS.Call
import HandS.List
import HandS.Comp
import HandS.Ends
import HandS.Dict
import HandS.Iter
import HandS.Text
import HandS.Words
import HandS.WordsList
import HandS.Steps
import HandS.Evl
import HandS.Exc
import HandS.TryOnly
import HandS.ExcOwn
import HandS.WordsExc
import HandS.IsInst
import HandS.ExcIs
import HandS.Deep
import HandS.HotCalls
import PySem.Challenge.RW_spindlegate_k02_flash_power
set_option Elab.async false
set_option linter.all false
set_option maxRecDepth 100000
set_option maxHeartbeats 4000000
/-! General lemmas: readings of expressions, small heaps, lists. -/
namespace Sg
open PySem PySem.Spec PyProof.Rows L2
section
variable {σ : L2.St} {H : Hp} {ta tb te : TE} {i j : Int} {K : PySem.W.Frag} {x y z : V}
theorem v0 {g : Int → Int → V} (ha : Val ta σ H (.int i)) (hb : Val tb σ H (.int j)) : Val (tOp (rI0 g) ta tb) σ H (g i j) := val_op ha hb fun _ q => ⟨i, j, rfl, rfl, q⟩
theorem vc {C : Int → Int → Prop} {g : Int → Int → V} (ha : Val ta σ H (.int i)) (hb : Val tb σ H (.int j)) (hc : C i j) : Val (tOp (rI C g) ta tb) σ H (g i j) := val_op ha hb fun _ q => ⟨i, j, rfl, rfl, hc, q⟩
theorem vEq (ha : Val ta σ H x) (hb : Val tb σ H y) (hs : scal x y = true) : Val (tOp rEq ta tb) σ H (.bl (decide (x = y))) := val_op ha hb fun _ q => ⟨hs, q⟩
theorem vNe (ha : Val ta σ H x) (hb : Val tb σ H y) (hs : scal x y = true) : Val (tOp rNe ta tb) σ H (.bl (!decide (x = y))) := val_op ha hb fun _ q => ⟨hs, q⟩
theorem vIx {p : Addr} {xs : List V} {n : Nat} (ha : Val ta σ H (.ref p)) (hb : Val tb σ H (.int (n : Int))) (hp : SqL K H p xs) (hn : xs[n]? = some z) : Val (tOp (rIxL K) ta tb) σ H z :=
  val_op ha hb fun _ q => ⟨p, xs, _, z, rfl, rfl, hp, atI_nat hn, q⟩
theorem vIs {v w : V} (h : Val te σ H v) (e : v = w) : Val te σ H w := e ▸ h
/-- a built-in's call of one argument -/
theorem vCB1 {r : List V → Hp → VK → Prop} (ha : Val ta σ H x) (hr : ∀ Q : VK, Q z H → r [x] H Q) : Val (tCB r (tCons ta tNil)) σ H z := fun Q q => ha _ (hr Q q)
theorem vCB2 {r : List V → Hp → VK → Prop} (ha : Val ta σ H x) (hb : Val tb σ H y) (hr : ∀ Q : VK, Q z H → r [x, y] H Q) : Val (tCB r (tCons ta (tCons tb tNil))) σ H z := fun Q q => ha _ (hb _ (hr Q q))
theorem aTest {b : Bool} (h : Val te σ H (.bl b)) : Ans (tTest te) σ H b := fun Q q => h _ ⟨b, rfl, q⟩
end
theorem map_get {α β : Type} {f : α → β} {l : List α} {i : Nat} {y : β} (h : (l.map f)[i]? = some y) : ∃ z, l[i]? = some z ∧ y = f z := by
  rw [List.getElem?_map] at h
  cases e : l[i]? with
  | none =>
    rw [e] at h
    cases h
  | some z =>
    rw [e] at h
    exact ⟨z, rfl, (Option.some.inj h).symm⟩
theorem get_map {α β : Type} {f : α → β} {l : List α} {i : Nat} {z : α} (h : l[i]? = some z) : (l.map f)[i]? = some (f z) := by rw [List.getElem?_map, h]; rfl
theorem upd_two {H : Hp} {a : Addr} {o u : HO} : upd (upd H a o) a u = upd H a u := upd_upd
theorem same_new {H : Hp} {p : Addr} {o : HO} (h : H p = Option.none) : Same H (upd H p o) := fun b u e => by
  rw [upd_ne (ne_of_none e h)]
  exact e
end Sg

set_option Elab.async false
set_option linter.all false
set_option maxRecDepth 100000
set_option maxHeartbeats 4000000
namespace Sg
open PySem PySem.Spec PyProof.Rows L2
/-! ### rules of our own -/
section
variable {X : Cx}
/-- C(), an own exception without an __init__ of its own -/
theorem pmk_own0 {C : Addr} {bmB : List Value} {B newId initId : String} {x : Str} {p pos : Pos} (F : ExcBaseFacts B newId initId bmB) (q : PySem.W.excIn X.K C bmB newId = true) (gC : X.mg x = some (.ref C))
    (kC : PySem.W.keepIn X.K (.ref C) = true) (r : Raises X (.ref C)) (hg : Gl X x) (hdb : (x == ("__debug__" : Str)) = false := by decide) :
    PMk X (.Call (.Name x p) [] [] pos) (fun _ H Q => Q (.ref C) none H) := by
  intro pins s σ H Q I h
  refine wpAny_Call_Name_kw (ld_glob I hg gC ?_ hdb)
  refine PySem.W.callWith_K0 I.kIn kC ?_
  obtain ⟨bm, N, nm, qn, bs, hdct, sn, sub, ab, col, dd, k0, k1, k2, k3, k5, mN, hC, hN, hni, T⟩ := exc_obj I.kIn q
  exact wpAny_call_exc_subT F T hC hN hni (fun h' e hm => mk_of I hm r h (I.hok.gone hm.new)) (Nat.zero_le _)
/-- o[i] of a list, by values, a place in bounds from the left -/
def rGetL (K : PySem.W.Frag) : V → V → Hp → VK → Prop := fun o i H Q => ∃ p xs n v, o = .ref p ∧ i = .int ((n : Nat) : Int) ∧ SqL K H p xs ∧ xs[n]? = some v ∧ Q v H
theorem get_list : PGet X (rGetL X.K) := by
  intro pins s σ H o i ov iv Q I ro ri h
  obtain ⟨p, xs, n, v, rfl, rfl, hq, he, q⟩ := h
  cases ro
  obtain ⟨t, rfl⟩ := ri
  obtain ⟨its, r, pl, hz⟩ := I.list hq
  obtain ⟨w, ew, rw'⟩ := r.get he
  have hl := r.length
  have hn := line63
  have hb := (List.getElem?_eq_some_iff.mp he).1
  exact wpAny_getItem_list pl.isList (by omega) (by omega) (by simpa using ew) ⟨v, H, I, rw', q⟩
/-- l.count(y): how many are equal, data of any depth -/
def rCountD (K : PySem.W.Frag) : V → List V → Hp → VK → Prop := fun x xs H Q => ∃ (a : Addr) (y : V) (d : PyData) (ds : List PyData), x = V.ref a ∧ xs = [y] ∧ Dp K H (V.ref a) (.list ds) ∧ Dp K H y d ∧
  SeqAt.shaped (.list ds) = true ∧ SeqAt.shaped d = true ∧ Q (.int (ds.countP (fun z => PyData.eqv z d) : Nat)) H
theorem mt_countD (hu : X.A.units + 65 < cLine) : MtR X "list.count" (rCountD X.K) := by
  intro pins s σ H x xs v us Q I rx rxs h
  obtain ⟨a, y, d, ds, rfl, rfl, hl, hy, sl, sd, q⟩ := h
  cases rx
  cases rxs with
  | cons ry rt =>
    rename_i uy ut
    cases rt
    obtain ⟨bs, r1⟩ := Dp.reads I d y uy hy ry
    have hxs : PyData.canLayAll0 ds = true := SeqAt.canLay_of_shaped sl
    have hroom : X.A.units + 1 + min (PyData.depthAll ds) d.depth < cLine := room_in_shaped sd hu
    cases hl with
    | lst hs ha =>
      obtain ⟨its, rv, ⟨⟨cls, dd, data, sls⟩, n, ho, hc, hdn, hdt⟩, hlen⟩ := I.list hs
      simp only at hc hdt
      subst hc hdt
      obtain ⟨as, h4⟩ := Dp.readsAll I ds _ its ha rv
      have hmap : its.map (SeqAt.readOf s.heap) = ds := SeqAt.readsAll_map ds its as hxs h4
      refine call_meets PySem.F.slot_list_count ⟨_, ho, rfl⟩ PySem.F.entry_list_count (PySem.F.args_list_count_2 _ _)
        (SeqAt.list_countAt a its.toArray n dd sls uy (fun u => PyData.eqv (SeqAt.readOf s.heap u) d)) ⟨ho, SeqAt.items_eqAt (vs := its.toArray) (show ReadsAll s.heap its.toArray.toList ds as from h4) r1 hxs (SeqAt.canLay_of_shaped sd) hroom, ?_⟩
      have ec : its.toArray.toList.countP (fun u => PyData.eqv (SeqAt.readOf s.heap u) d) = ds.countP (fun z => PyData.eqv z d) := by
        rw [← hmap, List.countP_map]
        rfl
      refine ⟨.int (ds.countP (fun z => PyData.eqv z d) : Nat), H, I.tok _, ⟨s.toks, ?_⟩, q⟩
      show Value.int ((its.toArray.toList.countP (fun u => PyData.eqv (SeqAt.readOf s.heap u) d) : Nat) : Int) s.toks = _
      rw [ec]
/-- isinstance(e, c), e the exception that the suite holds, whatever its class is -/
def rIsX (K : PySem.W.Frag) (a : Addr) (cls : Value) (d : Option Addr) : List V → Hp → VK → Prop := fun xs H Q => ∃ (D : Addr) (c : V) (cv : Value) (b : Bool), cls = .ref D ∧ d = none ∧ ExcC K D ∧ xs = [.ref a, c] ∧ (∀ u, RelV c u → u = cv) ∧ PySem.W.kitOne K (.ref D) cv = some b ∧ Q (.bl b) H
theorem call_isX {a : Addr} {oe : Obj} {cls : Value} {d : Option Addr} {pn : List (Addr × Obj)} (hz : Zc cls d oe) (hf : ∃ vs, oe.data = .fields vs) : CallR (X.suite a ((a, oe) :: pn)) (.builtin "isinstance") (rIsX X.K a cls d) := by
  intro pins s σ H xs us Q I r h
  obtain ⟨D, c, cv, b, rfl, rfl, C, rfl, hcv, e, q⟩ := h
  exact call_isE C hz hf pins s σ H _ us Q I r ⟨c, cv, b, rfl, hcv, e, q⟩
end
/-- an exception of a subclass is what the clause names -/
theorem exm_sub {K : PySem.W.Frag} {S T : Addr} (h1 : PySem.W.subIn K (.ref T) (.type "BaseException") = some true) (h2 : PySem.W.isClsIn K T = true) (h3 : PySem.W.typeIn K (.ref T) = some (.type "type")) (h4 : PySem.W.subIn K (.ref S) (.ref T) = some true) :
    PySem.W.exmOne K (.ref S) (.ref T) = some true := by
  have e1 : (PySem.W.subIn K (.ref T) (.type "BaseException") == some true) = true := by rw [h1] <;> rfl
  have e2 : ((PySem.W.clsIn K T).isSome && PySem.W.typeIn K (.ref T) == some (.type "type")) = true := by
    have h2' : (PySem.W.clsIn K T).isSome = true := h2
    rw [h2', h3] <;> rfl
  show (if (PySem.W.subIn K (.ref T) (.type "BaseException") == some true) = true then (if ((PySem.W.clsIn K T).isSome && PySem.W.typeIn K (.ref T) == some (.type "type")) = true then PySem.W.subIn K (.ref S) (.ref T) else none) else none) = some true
  rw [if_pos e1, if_pos e2]
  exact h4
end Sg

set_option Elab.async false
set_option linter.all false
set_option maxRecDepth 100000
set_option maxHeartbeats 4000000
namespace Sg
open PySem PySem.Spec PyProof.Rows L2
/-! ### pages, rows of pages, grids of rows -/
def flatC : V → Bool
  | .non => true
  | .bl _ => true
  | .int _ => true
  | .str x => PyData.strOk x
  | _ => false
def dFlat : V → PyData
  | .bl b => .bool b
  | .int i => .int i
  | .str x => .str x
  | _ => .none
theorem dFlat_dp {K : PySem.W.Frag} {H : Hp} : ∀ {v : V}, flatC v = true → Dp K H v (dFlat v) ∧ (dFlat v).canLay0 = true ∧ (dFlat v).depth = 0
  | .non, _ => ⟨.non, by simp [dFlat, PyData.canLay0], by simp [dFlat, PyData.depth]⟩
  | .bl b, _ => ⟨.bl b, by simp [dFlat, PyData.canLay0], by simp [dFlat, PyData.depth]⟩
  | .int i, _ => ⟨.int i, by simp [dFlat, PyData.canLay0], by simp [dFlat, PyData.depth]⟩
  | .str x, h => ⟨.str x, by simpa [dFlat, PyData.canLay0, flatC] using h, by simp [dFlat, PyData.depth]⟩
  | .byt _, h => by simp [flatC] at h
  | .flt _, h => by simp [flatC] at h
  | .ref _, h => by simp [flatC] at h
  | .ty _, h => by simp [flatC] at h
theorem flats_dp {K : PySem.W.Frag} {H : Hp} : ∀ {vs : List V}, vs.all flatC = true → DpAll K H vs (vs.map dFlat) ∧ PyData.canLayAll0 (vs.map dFlat) = true ∧ PyData.depthAll (vs.map dFlat) = 0
  | [], _ => ⟨.nil, by simp [PyData.canLayAll0], by simp [PyData.depthAll]⟩
  | v :: vs, h => by
    rw [List.all_cons, Bool.and_eq_true] at h
    obtain ⟨a1, a2, a3⟩ := dFlat_dp (K := K) (H := H) h.1
    obtain ⟨b1, b2, b3⟩ := flats_dp (K := K) (H := H) h.2
    refine ⟨.cons a1 b1, ?_, ?_⟩
    · simp [PyData.canLayAll0, a2, b2]
    · simp only [List.map_cons, PyData.depthAll]; omega
def torn : V := .str "torn"
/-- what a page holds that is not erased -/
def PgN (H : Hp) (v : V) : Prop := v = torn ∨ ∃ t xs, v = .ref t ∧ H t = some (.tup xs) ∧ xs.all flatC = true
theorem PgN.ne {H : Hp} {v : V} (h : PgN H v) : v ≠ .non := by
  rcases h with rfl | ⟨t, xs, rfl, _⟩ <;> (intro e; cases e)
/-- tuples stay -/
def Tups (H H' : Hp) : Prop := ∀ t xs, H t = some (.tup xs) → H' t = some (.tup xs)
theorem same_tups {H H' : Hp} (s : Same H H') : Tups H H' := fun t xs h => s _ _ h
theorem Tups.trans {H H1 H2 : Hp} (a : Tups H H1) (b : Tups H1 H2) : Tups H H2 := fun t xs h => b t xs (a t xs h)
theorem Tups.lst {H : Hp} {a : Addr} {xs : List V} {o : HO} (h : H a = some (.lst xs)) : Tups H (upd H a o) := fun t ys e => by
  rw [upd_ne (ne_of e h (by intro z; cases z))]; exact e
theorem Tups.ins {H : Hp} {a C dx : Addr} {fs : List (Str × V)} {o : HO} (h : H a = some (.ins C dx fs)) : Tups H (upd H a o) := fun t ys e => by
  rw [upd_ne (ne_of e h (by intro z; cases z))]; exact e
theorem Tups.new {H : Hp} {a : Addr} {o : HO} (h : H a = Option.none) : Tups H (upd H a o) := fun t xs e => same_new h _ _ e
theorem PgN.mono {H H' : Hp} {v : V} (s : Tups H H') (h : PgN H v) : PgN H' v := by
  rcases h with rfl | ⟨t, xs, rfl, ht, hx⟩
  · exact .inl rfl
  · exact .inr ⟨t, xs, rfl, s _ _ ht, hx⟩
/-- a page's data -/
theorem PgN.dp {K : PySem.W.Frag} {H : Hp} {v : V} (h : PgN H v) : ∃ d, Dp K H v d ∧ d.canLay0 = true ∧ d.depth ≤ 1 ∧ PyData.eqv d .none = false := by
  rcases h with rfl | ⟨t, xs, rfl, ht, hx⟩
  · exact ⟨.str "torn", .str _, by simp only [PyData.canLay0]; decide +kernel, by simp [PyData.depth], by simp [PyData.eqv]⟩
  · obtain ⟨a1, a2, a3⟩ := flats_dp (K := K) (H := H) hx
    exact ⟨.tuple (xs.map dFlat), .tup (SqT.of ht) a1, by simpa [PyData.canLay0] using a2, by simp [PyData.depth, a3], by simp [PyData.eqv]⟩
/-- the pages of a block: what is programmed, then erased ones -/
def row (vs : List V) : List V := vs ++ List.replicate (8 - vs.length) V.non
theorem row_len {vs : List V} (h : vs.length ≤ 8) : (row vs).length = 8 := by
  unfold row; rw [List.length_append, List.length_replicate]; omega
theorem row_get {vs : List V} {j : Nat} {v : V} (h : vs[j]? = some v) : (row vs)[j]? = some v := by
  unfold row
  rw [List.getElem?_append_left (List.getElem?_eq_some_iff.mp h).1]; exact h
theorem row_non {vs : List V} {j : Nat} (h : vs.length ≤ j) (h8 : j < 8) : (row vs)[j]? = some V.non := by
  unfold row
  rw [List.getElem?_append_right h, List.getElem?_replicate, if_pos (by omega)]
theorem row_set {vs : List V} {v : V} (h : vs.length < 8) : (row vs).set vs.length v = row (vs ++ [v]) := by
  unfold row
  rw [List.set_append_right _ _ (Nat.le_refl _), Nat.sub_self, List.length_append, List.append_assoc]
  congr 1
  obtain ⟨m, hm⟩ : ∃ m, 8 - vs.length = m + 1 := ⟨7 - vs.length, by omega⟩
  have h2 : 8 - (vs.length + [v].length) = m := by simp only [List.length_cons, List.length_nil]; omega
  rw [hm, h2, List.replicate_succ]
  rfl
def PgsN (H : Hp) (vs : List V) : Prop := vs.length ≤ 8 ∧ ∀ v ∈ vs, PgN H v
theorem PgsN.mono {H H' : Hp} {vs : List V} (s : Tups H H') (h : PgsN H vs) : PgsN H' vs := ⟨h.1, fun v hv => (h.2 v hv).mono s⟩
theorem pgs_dp {K : PySem.W.Frag} {H : Hp} : ∀ {vs : List V}, (∀ v ∈ vs, PgN H v) → ∃ ds, DpAll K H vs ds ∧ PyData.canLayAll0 ds = true ∧ PyData.depthAll ds ≤ 1 ∧ ds.countP (fun z => PyData.eqv z .none) = 0
  | [], _ => ⟨[], .nil, by simp [PyData.canLayAll0], by simp [PyData.depthAll], rfl⟩
  | v :: vs, h => by
    obtain ⟨d, a1, a2, a3, a4⟩ := (h v List.mem_cons_self).dp (K := K)
    obtain ⟨ds, b1, b2, b3, b4⟩ := pgs_dp (K := K) (fun v hv => h v (List.mem_cons_of_mem _ hv))
    refine ⟨d :: ds, .cons a1 b1, by simp [PyData.canLayAll0, a2, b2], ?_, ?_⟩
    · simp only [PyData.depthAll]; omega
    · rw [List.countP_cons, b4, a4]; rfl
theorem nons_dp {K : PySem.W.Frag} {H : Hp} : ∀ n : Nat, DpAll K H (List.replicate n V.non) (List.replicate n PyData.none) ∧ PyData.canLayAll0 (List.replicate n PyData.none) = true ∧ PyData.depthAll (List.replicate n PyData.none) = 0 ∧ (List.replicate n PyData.none).countP (fun z => PyData.eqv z .none) = n
  | 0 => ⟨.nil, by simp [PyData.canLayAll0], by simp [PyData.depthAll], rfl⟩
  | n + 1 => by
    obtain ⟨a, b, c, d⟩ := nons_dp (K := K) (H := H) n
    rw [List.replicate_succ, List.replicate_succ]
    refine ⟨.cons .non a, by simp [PyData.canLayAll0, PyData.canLay0, b], by simp [PyData.depthAll, PyData.depth, c], ?_⟩
    rw [List.countP_cons, d, if_pos (by simp [PyData.eqv])]
theorem dpAll_append {K : PySem.W.Frag} {H : Hp} : ∀ {xs ys : List V} {ds es : List PyData}, DpAll K H xs ds → DpAll K H ys es → DpAll K H (xs ++ ys) (ds ++ es)
  | _, _, _, _, .nil, h => h
  | _, _, _, _, .cons a b, h => .cons a (dpAll_append b h)
theorem canLay_append : ∀ {ds es : List PyData}, PyData.canLayAll0 ds = true → PyData.canLayAll0 es = true → PyData.canLayAll0 (ds ++ es) = true
  | [], _, _, h => h
  | d :: ds, es, h, h' => by
    simp only [PyData.canLayAll0, Bool.and_eq_true] at h
    simp only [List.cons_append, PyData.canLayAll0, Bool.and_eq_true]
    exact ⟨h.1, canLay_append h.2 h'⟩
theorem depth_append : ∀ {ds es : List PyData} {n : Nat}, PyData.depthAll ds ≤ n → PyData.depthAll es ≤ n → PyData.depthAll (ds ++ es) ≤ n
  | [], _, _, _, h => h
  | d :: ds, es, n, h, h' => by
    simp only [PyData.depthAll] at h
    simp only [List.cons_append, PyData.depthAll]
    have := depth_append (ds := ds) (es := es) (n := n) (by omega) h'
    omega
/-- a row's data, and how many of its pages are erased -/
theorem row_dp {K : PySem.W.Frag} {H : Hp} {vs : List V} (h : PgsN H vs) : ∃ ds, DpAll K H (row vs) ds ∧ PyData.canLayAll0 ds = true ∧ PyData.depthAll ds ≤ 1 ∧ ds.countP (fun z => PyData.eqv z .none) = 8 - vs.length := by
  obtain ⟨ds, a, b, c, d⟩ := pgs_dp (K := K) h.2
  obtain ⟨a', b', c', d'⟩ := nons_dp (K := K) (H := H) (8 - vs.length)
  refine ⟨_, dpAll_append a a', canLay_append b b', depth_append c (by omega), ?_⟩
  rw [List.countP_append, d, d']; omega
theorem shaped_of {d : PyData} (h : d.canLay0 = true) (h' : d.depth ≤ 64) : SeqAt.shaped d = true := by
  show (d.canLay0 && decide (d.depth ≤ 64)) = true
  rw [Bool.and_eq_true]; exact ⟨h, decide_eq_true h'⟩
theorem shaped_list {ds : List PyData} (h : PyData.canLayAll0 ds = true) (h' : PyData.depthAll ds ≤ 63) : SeqAt.shaped (.list ds) = true :=
  shaped_of (by simpa [PyData.canLay0] using h) (by simp only [PyData.depth]; omega)
/-! ### grids: a list at c of lists at as, whose pages are those of ps -/
structure Grid (H : Hp) (c : Addr) (as : List Addr) (ps : List (List V)) : Prop where
  ls : H c = some (.lst (as.map V.ref))
  len : as.length = ps.length
  nd : as.Nodup
  nc : c ∉ as
  rows : ∀ (i : Nat) (a : Addr) (vs : List V), as[i]? = some a → ps[i]? = some vs → H a = some (.lst (row vs))
theorem Grid.keep {H H' : Hp} {c : Addr} {as : List Addr} {ps : List (List V)} (g : Grid H c as ps) (hc : ∀ o, H c = some o → H' c = some o) (ha : ∀ a ∈ as, ∀ o, H a = some o → H' a = some o) : Grid H' c as ps :=
  ⟨hc _ g.ls, g.len, g.nd, g.nc, fun i a vs h1 h2 => ha a (List.mem_of_getElem? h1) _ (g.rows i a vs h1 h2)⟩
theorem Grid.same {H H' : Hp} {c : Addr} {as : List Addr} {ps : List (List V)} (g : Grid H c as ps) (s : Same H H') : Grid H' c as ps := g.keep (fun o h => s _ _ h) (fun a _ o h => s _ _ h)
theorem Grid.at {H : Hp} {c : Addr} {as : List Addr} {ps : List (List V)} (g : Grid H c as ps) {i : Nat} {vs : List V} (h : ps[i]? = some vs) : ∃ a, as[i]? = some a ∧ H a = some (.lst (row vs)) := by
  have hi : i < as.length := by rw [g.len]; exact (List.getElem?_eq_some_iff.mp h).1
  exact ⟨as[i], List.getElem?_eq_getElem hi, g.rows i _ vs (List.getElem?_eq_getElem hi) h⟩
theorem get_set_cases {α : Type} {l : List α} {i j : Nat} {x y : α} (h : (l.set i x)[j]? = some y) : (j = i ∧ y = x ∧ i < l.length) ∨ (j ≠ i ∧ l[j]? = some y) := by
  rw [List.getElem?_set] at h
  split at h
  · rename_i e
    split at h
    · rename_i h2
      exact .inl ⟨e.symm, (Option.some.inj h).symm, h2⟩
    · cases h
  · rename_i e
    exact .inr ⟨fun z => e z.symm, h⟩
/-- one row changed -/
theorem Grid.prog {H H' : Hp} {c : Addr} {as : List Addr} {ps : List (List V)} (g : Grid H c as ps) {i : Nat} {a : Addr} {vs : List V} (ha : as[i]? = some a) (h1 : H' a = some (.lst (row vs))) (h2 : ∀ b o, b ≠ a → H b = some o → H' b = some o) : Grid H' c as (ps.set i vs) := by
  refine ⟨h2 _ _ (fun e => g.nc (e ▸ List.mem_of_getElem? ha)) g.ls, by rw [List.length_set]; exact g.len, g.nd, g.nc, fun j b ws hb hw => ?_⟩
  rcases get_set_cases hw with ⟨rfl, rfl, _⟩ | ⟨hj, hw⟩
  · rw [ha] at hb; cases hb; exact h1
  · exact h2 _ _ (fun e => hj (nd_ix g.nd hb (by rw [e]; exact ha))) (g.rows j b ws hb hw)
/-- one row replaced by a new list -/
theorem Grid.swap {H H' : Hp} {c : Addr} {as : List Addr} {ps : List (List V)} (g : Grid H c as ps) {i : Nat} {q : Addr} {vs : List V} (hq : H q = Option.none) (h0 : H' c = some (.lst ((as.set i q).map V.ref))) (h1 : H' q = some (.lst (row vs)))
    (h2 : ∀ b ∈ as, ∀ o, H b = some o → H' b = some o) : Grid H' c (as.set i q) (ps.set i vs) := by
  have hqn : ∀ j (b : Addr), as[j]? = some b → b ≠ q := fun j b hb => by
    have hj : j < ps.length := by rw [← g.len]; exact (List.getElem?_eq_some_iff.mp hb).1
    exact ne_of_none (g.rows j b _ hb (List.getElem?_eq_getElem hj)) hq
  refine ⟨h0, by rw [List.length_set, List.length_set]; exact g.len, ?_, ?_, fun j b ws hb hw => ?_⟩
  · rw [List.nodup_iff_pairwise_ne, List.pairwise_iff_getElem]
    intro j k hj hk hlt
    rw [List.length_set] at hj hk
    rw [List.getElem_set, List.getElem_set]
    split
    · split
      · omega
      · exact (hqn k _ (List.getElem?_eq_getElem hk)).symm
    · split
      · exact hqn j _ (List.getElem?_eq_getElem hj)
      · intro e
        have := nd_ix g.nd (List.getElem?_eq_getElem hj) (by rw [e]; exact List.getElem?_eq_getElem hk)
        omega
  · intro hm
    obtain ⟨j, hj⟩ := List.getElem?_of_mem hm
    rcases get_set_cases hj with ⟨_, e, _⟩ | ⟨_, h⟩
    · exact ne_of_none g.ls hq e
    · exact g.nc (List.mem_of_getElem? h)
  · rcases get_set_cases hw with ⟨rfl, rfl, hl⟩ | ⟨hj, hw⟩
    · rcases get_set_cases hb with ⟨_, rfl, _⟩ | ⟨hne, _⟩
      · exact h1
      · exact absurd rfl hne
    · rcases get_set_cases hb with ⟨e, _, _⟩ | ⟨_, hb⟩
      · exact absurd e hj
      · exact h2 b (List.mem_of_getElem? hb) _ (g.rows j b ws hb hw)
def Pgs (H : Hp) (ps : List (List V)) : Prop := ∀ vs ∈ ps, PgsN H vs
theorem Pgs.mono {H H' : Hp} {ps : List (List V)} (s : Tups H H') (h : Pgs H ps) : Pgs H' ps := fun vs hv => (h vs hv).mono s
theorem Pgs.set {H : Hp} {ps : List (List V)} {i : Nat} {vs : List V} (h : Pgs H ps) (hv : PgsN H vs) : Pgs H (ps.set i vs) := fun ws hw => by
  rcases List.mem_or_eq_of_mem_set hw with a | a
  · exact h ws a
  · rw [a]; exact hv
/-! ### images: a list of tuples (wear, list of pages) -/
def ImgAt (H : Hp) (r : Addr) (ws : List Int) (ps : List (List V)) : Prop := ∃ tr : List Addr, H r = some (.lst (tr.map V.ref)) ∧ tr.length = ps.length ∧
  ∀ (i : Nat) (t : Addr), tr[i]? = some t → ∃ (wv : Int) (c : Addr) (vs : List V), ws[i]? = some wv ∧ ps[i]? = some vs ∧ H t = some (.tup [.int wv, .ref c]) ∧ H c = some (.lst (row vs))
theorem img_dps {K : PySem.W.Frag} {H : Hp} : ∀ {ws : List Int} {ps : List (List V)}, Pgs H ps → ws.length = ps.length → ∃ ds, PyData.canLayAll0 ds = true ∧ PyData.depthAll ds ≤ 3 ∧ ∀ tr : List Addr, tr.length = ps.length →
    (∀ (i : Nat) (t : Addr), tr[i]? = some t → ∃ (wv : Int) (c : Addr) (vs : List V), ws[i]? = some wv ∧ ps[i]? = some vs ∧ H t = some (.tup [.int wv, .ref c]) ∧ H c = some (.lst (row vs))) → DpAll K H (tr.map V.ref) ds
  | _, [], _, _ => ⟨[], by simp [PyData.canLayAll0], by simp [PyData.depthAll], fun tr h _ => by
      cases tr with
      | nil => exact .nil
      | cons t tr => simp at h⟩
  | [], _ :: _, _, h => by simp at h
  | wv :: ws, vs :: ps, hp, hl => by
    obtain ⟨rd, r1, r2, r3, _⟩ := row_dp (K := K) (hp vs List.mem_cons_self)
    obtain ⟨ds, a, b, k⟩ := img_dps (K := K) (H := H) (ws := ws) (ps := ps) (fun u hu => hp u (List.mem_cons_of_mem _ hu)) (by simpa using hl)
    refine ⟨.tuple [.int wv, .list rd] :: ds, ?_, ?_, fun tr h1 h2 => ?_⟩
    · simp [PyData.canLayAll0, PyData.canLay0, r2, a]
    · simp only [PyData.depthAll, PyData.depth]; omega
    · cases tr with
      | nil => simp at h1
      | cons t tr =>
        obtain ⟨wv', c, vs', e1, e2, h3, h4⟩ := h2 0 t rfl
        have e1' : wv = wv' := by simpa using e1
        have e2' : vs = vs' := by simpa using e2
        subst e1' e2'
        refine .cons (.tup (SqT.of h3) (.cons (.int _) (.cons (.lst (SqL.of h4) r1) .nil))) (k tr (by simpa using h1) fun i t ht => ?_)
        obtain ⟨w2, c2, v2, f1, f2, f3, f4⟩ := h2 (i + 1) t (by simpa using ht)
        exact ⟨w2, c2, v2, by simpa using f1, by simpa using f2, f3, f4⟩
theorem img_dp {K : PySem.W.Frag} {H : Hp} {ws : List Int} {ps : List (List V)} (hp : Pgs H ps) (hl : ws.length = ps.length) : ∃ d, SeqAt.shaped d = true ∧ PyData.eqv d d = true ∧ ∀ r, ImgAt H r ws ps → Dp K H (.ref r) d := by
  obtain ⟨ds, a, b, k⟩ := img_dps (K := K) hp hl
  have hs := shaped_list a (by omega)
  refine ⟨.list ds, hs, SeqAt.eqv_refl _ (SeqAt.canLay_of_shaped hs), fun r ⟨tr, h1, h2, h3⟩ => ?_⟩
  exact .lst (SqL.of h1) (k tr h2 h3)
end Sg

set_option Elab.async false
set_option linter.all false
set_option maxRecDepth 100000
set_option maxHeartbeats 4000000
namespace Sg
open PySem PySem.Spec PyProof.Rows L2
def top (i : Nat) : Stmt := PySem.Challenge.pw_spindlegate_k02_flash_power.main.body.getD i (.Pass ⟨0, 0, 0, 0⟩)
abbrev sTape : Stmt := top 16
abbrev sAt : Stmt := top 17
/-! ### the tape -/
def TapeOk (ts : List Int) : Prop := ∀ t ∈ ts, 0 ≤ t ∧ t < 1000
theorem TapeOk.nil : TapeOk [] := fun t h => by cases h
theorem TapeOk.snoc {ts : List Int} {t : Int} (h : TapeOk ts) (h0 : 0 ≤ t) (h1 : t < 1000) : TapeOk (ts ++ [t]) := fun u hu => by
  rcases List.mem_append.mp hu with a | a
  · exact h u a
  · cases List.mem_singleton.mp a
    exact ⟨h0, h1⟩
theorem TapeOk.at {ts : List Int} (h : TapeOk ts) (k : Nat) : 0 ≤ ts.getD k 0 ∧ ts.getD k 0 < 1000 := by
  rw [List.getD_eq_getElem?_getD]
  cases e : ts[k]? with
  | none => exact ⟨by decide, by decide⟩
  | some t => exact h t (List.mem_of_getElem? e)
/-- what is built-in of the names that the law's helpers use -/
structure Blt (mg : Str → Option Value) : Prop where
  range : mg "range" = none
  len : mg "len" = none
  abs : mg "abs" = none
  int : mg "int" = none
def spTape (K : PySem.W.Frag) : Sp := fun vs H Q _ => ∃ (a : Addr) (ns : List Int), vs = [.ref a] ∧ SqL K H a (ns.map V.int) ∧ ns.length ≤ 63 ∧
  ∀ (p : Addr) (ts : List Int), H p = none → TapeOk ts → ts.length ≤ 3780 → Q (.ref p) (upd H p (.lst (ts.map V.int)))
def spAt (K : PySem.W.Frag) : Sp := fun vs H Q _ => ∃ (p : Addr) (ts : List Int) (k : Nat), vs = [.ref p, .int (k : Int)] ∧ SqL K H p (ts.map V.int) ∧ Q (.int (ts.getD k 0)) H
section
variable {P : Program} {w : World} {K : PySem.W.Frag} {mg : Str → Option Value} {base : Heap} {f : Addr} {fd : FuncData}
theorem scTape : FnScope ["script", "tape", "k", "value", "step"] ["script"] (defScope sTape) := ⟨rfl, rfl, rfl, by decide +kernel, rfl, by decide +kernel, by decide +kernel⟩
theorem snocT {H : Hp} {p : Addr} {ts : List Int} {t : Int} : upd (upd H p (.lst (ts.map V.int))) p (.lst (ts.map V.int ++ [V.int t])) = upd H p (.lst ((ts ++ [t]).map V.int)) := by
  rw [upd_upd, List.map_append]; rfl
theorem ok_tape (F : Fun K "_law_tape" "_law_tape" sTape f fd) (B : Blt mg) : FnOk P w K mg base CX0 1 f fd ["script"] (spTape K) := by
  refine F.ok scTape (fun vs H Q E h => ?_) (fun cdv A outer s H vs Q E hr h => ?_)
  · obtain ⟨a, ns, rfl, _⟩ := h
    rfl
  · obtain ⟨a, ns, rfl, hS, hlen, k⟩ := h
    refine ⟨_, pss_cons (ps_set (i := 1) scTape.nd rfl (Or.inl rfl) (pe_lst pa_nil))
      (pss_cons (ps_for PassesOwn.never rfl (pi_range1 (by rfl) B.range (pa_cons (pe_callB call_len_seq (by rfl) B.len PySem.boot_len (pa_cons (pv 0) pa_nil)) pa_nil)) (pg_name (i := 2) scTape.nd rfl (Or.inl rfl))
        (pss_cons (ps_set (i := 3) scTape.nd rfl (Or.inl rfl) (pe_callB call_abs (by rfl) B.abs (by decide +kernel) (pa_cons (pe_callTy call_int1 (by rfl) B.int (by decide +kernel) (pa_cons (pe_ix ix_list (pv 0) (pv 2) (fun _ _ => rfl)) pa_nil)) pa_nil)))
        (pss_one (ps_if (pt_cmpR op_ge (pv 3) (pe_op op_pow pe_int pe_int) (nomark _))
          (pss_one (ps_for PassesOwn.never rfl (pi_range1 (by rfl) B.range (pa_cons pe_int pa_nil)) (pg_name (i := 4) scTape.nd rfl (Or.inl rfl))
            (pss_one (ps_if (pt_cmpR op_gt (pv 3) pe_int (nomark _))
              (pss_cons (ps_expr (pe_bm PySem.F.plainAttrs_list PySem.F.slot_list_append PySem.F.type_list_append mt_append (pv 1) (pa_cons (pe_op op_mod (pv 3) pe_int) pa_nil)))
                (pss_one (ps_set (i := 3) scTape.nd rfl (Or.inl rfl) (pe_op op_fdiv (pv 3) pe_int)))) pss_nil))))
          (pss_one (ps_for PassesOwn.never rfl (pi_range1 (by rfl) B.range (pa_cons pe_int pa_nil)) (pg_name (i := 4) scTape.nd rfl (Or.inl rfl))
            (pss_cons (ps_set (i := 3) scTape.nd rfl (Or.inl rfl) (pe_op op_mod (pe_op op_add (pe_op op_add (pe_op op_mul (pv 3) pe_int) (pe_op op_mul pe_int (pe_op op_add (pv 2) pe_int))) (pe_op op_mul pe_int (pv 4))) pe_int))
            (pss_cons (ps_set (i := 3) scTape.nd rfl (Or.inl rfl) (pe_op op_mod (pe_op op_mul (pv 3) pe_int) pe_int))
            (pss_one (ps_expr (pe_bm PySem.F.plainAttrs_list PySem.F.slot_list_append PySem.F.type_list_append mt_append (pv 1) (pa_cons (pe_op op_mod (pe_op op_fdiv (pv 3) pe_int) pe_int) pa_nil))))))))))))
      (pss_one (ps_ret (pv 1)))), ?_⟩
    refine ⟨by show 0 ≤ sizeLine; decide, fun p hp => ?_⟩
    have s0 : ∀ o, Same H (upd H p o) := fun o => same_new hp
    refine ⟨_, rfl, a, _, rfl, .inl ((s0 _).seq hS), _, rfl, ?_, ?_, ?_⟩
    · rw [List.length_map]; omega
    · rw [List.length_map]; omega
    refine for_range (lo := 0) (fun i σ H' => ∃ (ts : List Int) (v2 v3 v4 : Option V), σ = [some (.ref a), some (.ref p), v2, v3, v4] ∧ H' = upd H p (.lst (ts.map V.int)) ∧ TapeOk ts ∧ ts.length ≤ 60 * i)
      ⟨[], none, none, none, rfl, rfl, TapeOk.nil, by simp⟩ ?_ ?_
    · rintro i σ H' hi ⟨ts, v2, v3, v4, rfl, rfl, ht, hl⟩
      have hi' : i < ns.length := by rw [List.length_map] at hi; omega
      -- value = abs(int(script[k]))
      refine ⟨_, rfl, _, rfl, a, _, _, V.int ns[i], rfl, rfl, (s0 _).seq hS, ?_, .inl ⟨_, rfl, _, rfl, ?_⟩⟩
      · rw [Int.zero_add]
        exact atI_nat (get_map (List.getElem?_eq_getElem hi'))
      have hv : 0 ≤ (if ns[i] < 0 then -ns[i] else ns[i]) := by split <;> omega
      generalize (if ns[i] < 0 then -ns[i] else ns[i]) = v at hv
      -- value >= 10 ** 18
      refine ⟨_, rfl, _, _, rfl, rfl, ⟨by decide, by decide, by decide⟩, _, _, rfl, rfl, _, rfl, ?_⟩
      refine ite2 (fun hc => ?_) (fun hc => ?_)
      · refine ⟨60, rfl, by decide, by decide, ?_⟩
        refine for_range (lo := 0) (n := 60) (fun j σ H' => ∃ (ts' : List Int) (v : Int) (v4 : Option V), σ = [some (.ref a), some (.ref p), some (.int (0 + (i : Int))), some (.int v), v4] ∧ H' = upd H p (.lst (ts'.map V.int)) ∧ TapeOk ts' ∧ ts'.length ≤ 60 * i + j)
          ⟨ts, v, v4, rfl, rfl, ht, by omega⟩ ?_ ?_
        · rintro j σ H' hj ⟨ts', u, v4', rfl, rfl, ht', hl'⟩
          refine ⟨_, rfl, _, _, rfl, rfl, _, rfl, ?_⟩
          refine ite2 (fun hu => ?_) (fun hu => ?_)
          · refine ⟨_, rfl, .inl ⟨rfl, _, SqL.of upd_same⟩, _, rfl, _, _, rfl, rfl, (by show (0 : Int) < 1000; decide), p, _, _, rfl, rfl, upd_same, ?_, ?_⟩
            · rw [List.length_map]; exact Nat.lt_of_le_of_lt (by omega : ts'.length ≤ 3780) (by decide)
            refine ⟨_, rfl, _, _, rfl, rfl, ⟨by decide, by decide⟩, ?_⟩
            refine ⟨ts' ++ [u % 1000], u / 1000, _, rfl, snocT, ht'.snoc (by omega) (by omega), ?_⟩
            rw [List.length_append]; simp only [List.length_cons, List.length_nil]; omega
          · exact ⟨ts', u, _, rfl, rfl, ht', by omega⟩
        · rintro σ H' ⟨ts', u, v4', rfl, rfl, ht', hl'⟩
          exact ⟨ts', _, _, _, rfl, rfl, ht', by omega⟩
      · have hc' : v < 10 ^ 18 := by
          have := of_decide_eq_false (Bool.eq_false_iff.mpr hc)
          have e : (10 : Int) ^ (18 : Int).toNat = 10 ^ 18 := rfl
          omega
        refine ⟨4, rfl, by decide, by decide, ?_⟩
        refine for_range (lo := 0) (n := 4) (fun j σ H' => ∃ (ts' : List Int) (v : Int) (v4 : Option V), σ = [some (.ref a), some (.ref p), some (.int (0 + (i : Int))), some (.int v), v4] ∧ H' = upd H p (.lst (ts'.map V.int)) ∧ TapeOk ts' ∧ ts'.length ≤ 60 * i + j ∧ 0 ≤ v ∧ v < 10 ^ 18)
          ⟨ts, v, v4, rfl, rfl, ht, by omega, hv, hc'⟩ ?_ ?_
        · rintro j σ H' hj ⟨ts', u, v4', rfl, rfl, ht', hl', hu0, hu1⟩
          refine ⟨_, rfl, _, _, rfl, rfl, .inl ⟨by omega, by omega⟩, _, rfl, _, _, rfl, rfl, _, _, rfl, rfl, .inl ⟨by decide, by decide⟩, _, _, rfl, rfl, _, rfl, _, _, rfl, rfl, .inl ⟨by decide, by decide⟩, _, _, rfl, rfl, _, _, rfl, rfl, (by show (0 : Int) < 2147483647; decide), ?_⟩
          refine ⟨_, rfl, _, _, rfl, rfl, .inl ⟨by omega, by omega⟩, _, _, rfl, rfl, (by show (0 : Int) < 2147483647; decide), ?_⟩
          refine ⟨_, rfl, .inl ⟨rfl, _, SqL.of upd_same⟩, _, rfl, _, _, rfl, rfl, ⟨by decide, by decide⟩, _, _, rfl, rfl, (by show (0 : Int) < 1000; decide), p, _, _, rfl, rfl, upd_same, ?_, ?_⟩
          · rw [List.length_map]; exact Nat.lt_of_le_of_lt (by omega : ts'.length ≤ 3780) (by decide)
          refine ⟨ts' ++ [_], _, _, rfl, snocT, ht'.snoc (by omega) (by omega), ?_, by omega, by omega⟩
          rw [List.length_append]; simp only [List.length_cons, List.length_nil]; omega
        · rintro σ H' ⟨ts', u, v4', rfl, rfl, ht', hl', _, _⟩
          exact ⟨ts', _, _, _, rfl, rfl, ht', by omega⟩
    · rintro σ H' ⟨ts, v2, v3, v4, rfl, rfl, ht, hl⟩
      refine ⟨_, rfl, ?_⟩
      exact k p ts hp ht (by rw [List.length_map] at hl; omega)
theorem scAt : FnScope ["tape", "k"] ["tape", "k"] (defScope sAt) := ⟨rfl, rfl, rfl, by decide +kernel, rfl, by decide +kernel, by decide +kernel⟩
theorem ok_at (F : Fun K "_law_at" "_law_at" sAt f fd) (B : Blt mg) : FnOk P w K mg base CX0 1 f fd ["tape", "k"] (spAt K) := by
  refine F.ok scAt (fun vs H Q E h => ?_) (fun cdv A outer s H vs Q E hr h => ?_)
  · obtain ⟨p, ts, k, rfl, _⟩ := h
    rfl
  · obtain ⟨p, ts, k, rfl, hS, q⟩ := h
    refine ⟨_, pss_cons (ps_if (pt_cmpR op_lt (pv 1) (pe_callB call_len_seq (by rfl) B.len PySem.boot_len (pa_cons (pv 0) pa_nil)) (nomark _)) (pss_one (ps_ret (pe_ix ix_list (pv 0) (pv 1) (fun _ _ => rfl)))) pss_nil)
      (pss_one (ps_ret pe_int)), ?_⟩
    refine ⟨_, rfl, _, rfl, p, _, rfl, .inl hS, _, _, rfl, rfl, _, rfl, ?_⟩
    rw [List.length_map]
    rw [List.getD_eq_getElem?_getD] at q
    refine ite2 (fun hc => ?_) (fun hc => ?_)
    · have h1 : k < ts.length := by
        have := of_decide_eq_true hc
        omega
      rw [List.getElem?_eq_getElem h1] at q
      exact ⟨_, rfl, _, rfl, p, _, _, _, rfl, rfl, hS, atI_nat (get_map (List.getElem?_eq_getElem h1)), q⟩
    · have h1 : ts.length ≤ k := by
        have := of_decide_eq_false (Bool.eq_false_iff.mpr hc)
        omega
      rw [List.getElem?_eq_none h1] at q
      exact q
end
end Sg

set_option Elab.async false
set_option linter.all false
set_option maxRecDepth 100000
set_option maxHeartbeats 4000000
namespace Sg
open PySem PySem.Spec PyProof.Rows L2
abbrev sWhole : Stmt := top 1
abbrev sBetween : Stmt := top 2
/-- what the bounds' functions use -/
structure Bds (mg : Str → Option Value) (fW : Addr) : Prop where
  isi : mg "isinstance" = none
  int : mg "int" = none
  bool : mg "bool" = none
  gW : mg "is_whole" = some (.ref fW)
theorem boot_isi : bootBuiltins "isinstance" = some (.builtin "isinstance") := by decide +kernel
theorem kit_ii {K : PySem.W.Frag} : PySem.W.kitOne K (.type "int") (.type "int") = some true := kit_ty (by decide +kernel)
theorem kit_ib {K : PySem.W.Frag} : PySem.W.kitOne K (.type "int") (.type "bool") = some false := kit_ty (by decide +kernel)
def spWhole (K : PySem.W.Frag) : Sp := fun vs H Q _ => ∃ (x : V) (t : Value) (b1 b2 : Bool), vs = [x] ∧ TyX K H x t ∧ PySem.W.kitOne K t (.type "int") = some b1 ∧ PySem.W.kitOne K t (.type "bool") = some b2 ∧ Q (.bl (b1 && !b2)) H
def spBetween (K : PySem.W.Frag) : Sp := fun vs H Q _ => ∃ (x : V) (lo hi : Int), vs = [x, .int lo, .int hi] ∧
  ((∃ i, x = .int i ∧ Q (.bl (decide (lo ≤ i) && decide (i ≤ hi))) H) ∨ (∃ t b1 b2, TyX K H x t ∧ PySem.W.kitOne K t (.type "int") = some b1 ∧ PySem.W.kitOne K t (.type "bool") = some b2 ∧ (b1 && !b2) = false ∧ Q (.bl false) H))
section
variable {P : Program} {w : World} {K : PySem.W.Frag} {mg : Str → Option Value} {base : Heap} {f fW : Addr} {fd fdW : FuncData}
theorem scWhole : FnScope ["value"] ["value"] (defScope sWhole) := ⟨rfl, rfl, rfl, by decide +kernel, rfl, by decide +kernel, by decide +kernel⟩
theorem ok_whole (F : Fun K "is_whole" "is_whole" sWhole f fd) (B : Bds mg fW) : FnOk P w K mg base CX0 1 f fd ["value"] (spWhole K) := by
  refine F.ok scWhole (fun vs H Q E h => ?_) (fun cdv A outer s H vs Q E hr h => ?_)
  · obtain ⟨x, t, b1, b2, rfl, _⟩ := h
    rfl
  · obtain ⟨x, t, b1, b2, rfl, ty, h1, h2, q⟩ := h
    refine ⟨_, pss_one (ps_ret (pe_and (pe_callB call_isi (by rfl) B.isi boot_isi (pa_cons (pv 0) (pa_cons (pe_bltn (v := .ty "int") (by rfl) B.int boot_int rfl) pa_nil)))
      (pe_one (pe_not (pe_callB call_isi (by rfl) B.isi boot_isi (pa_cons (pv 0) (pa_cons (pe_bltn (v := .ty "bool") (by rfl) B.bool boot_bool rfl) pa_nil))))))), ?_⟩
    refine ⟨_, rfl, x, _, t, _, b1, rfl, .ty "int", ty, h1, b1, rfl, ?_⟩
    cases b1 with
    | true => exact iteT ⟨_, rfl, x, _, t, _, b2, rfl, .ty "bool", ty, h2, b2, rfl, q⟩
    | false => exact iteF q
theorem scBetween : FnScope ["value", "low", "high"] ["value", "low", "high"] (defScope sBetween) := ⟨rfl, rfl, rfl, by decide +kernel, rfl, by decide +kernel, by decide +kernel⟩
theorem ok_between (F : Fun K "is_between" "is_between" sBetween f fd) (B : Bds mg fW) (FW : Fun K "is_whole" "is_whole" sWhole fW fdW) (bW : Binds K fdW ["value"] []) : FnOk P w K mg base CX0 2 f fd ["value", "low", "high"] (spBetween K) := by
  have GW : FnOk P w K mg base CX0 1 fW fdW ["value"] (spWhole K) := ok_whole FW B
  refine F.ok scBetween (fun vs H Q E h => ?_) (fun cdv A outer s H vs Q E hr h => ?_)
  · obtain ⟨x, lo, hi, rfl, _⟩ := h
    rfl
  · obtain ⟨x, lo, hi, rfl, h⟩ := h
    refine ⟨_, pss_one (ps_ret (pe_and (pe_call GW hr (by rfl) B.gW FW.kp bW .nil pass0 (pa_cons (pv 0) pa_nil)) (pe_one (pe_chain op_le op_le (pv 1) (pv 0) (pv 2))))), ?_⟩
    rcases h with ⟨i, rfl, q⟩ | ⟨t, b1, b2, ty, h1, h2, hb, q⟩
    · refine ⟨_, rfl, _, _, true, false, rfl, .base (.int i), kit_ii, kit_ib, true, rfl, iteT ?_⟩
      refine ⟨_, rfl, _, rfl, _, _, rfl, rfl, _, rfl, ?_⟩
      by_cases c : lo ≤ i
      · rw [decide_eq_true c] at q
        rw [if_pos (decide_eq_true c)]
        exact ⟨_, rfl, _, _, rfl, rfl, q⟩
      · rw [decide_eq_false c] at q
        rw [if_neg (by rw [decide_eq_false c]; exact Bool.false_ne_true)]
        exact q
    · refine ⟨_, rfl, x, t, b1, b2, rfl, ty, h1, h2, _, rfl, ?_⟩
      rw [hb]
      exact iteF q
end
end Sg

set_option Elab.async false
set_option linter.all false
set_option maxRecDepth 100000
set_option maxHeartbeats 4000000
namespace Sg
open PySem PySem.Spec PyProof.Rows L2
/-! ### the flash -/
abbrev cF (i : Nat) : Stmt := inClass (top 13) i
theorem lk_here {k : Str} {v : V} {r : List (Str × V)} : List.lookup k ((k, v) :: r) = some v := by
  have e : (k == k) = true := beq_self_eq_true k
  simp only [List.lookup, e]
theorem lk_past {k g : Str} {v : V} {r : List (Str × V)} (h : (k == g) = false) : List.lookup k ((g, v) :: r) = List.lookup k r := by
  simp only [List.lookup, h]
theorem put_here {f : Str} {v x : V} {r : List (Str × V)} : putF f v ((f, x) :: r) = (f, v) :: r := if_pos rfl
theorem put_past {f g : Str} {v x : V} {r : List (Str × V)} (h : ¬ g = f) : putF f v ((g, x) :: r) = (g, x) :: putF f v r := if_neg h
/-- the attributes of a flash, in the order in which __init__ stores them -/
def ff (n : Int) (w c : Addr) (pw : Bool) (rm it : V) : List (Str × V) := [("blocks", .int n), ("_wears", .ref w), ("_contents", .ref c), ("_powered", .bl pw), ("_remaining", rm), ("_interrupted", it)]
section
variable {n : Int} {w c : Addr} {pw : Bool} {rm it : V}
theorem ff_blocks : (ff n w c pw rm it).lookup ("blocks" : Str) = some (.int n) := lk_here
theorem ff_wears : (ff n w c pw rm it).lookup ("_wears" : Str) = some (.ref w) := (lk_past (by decide +kernel)).trans lk_here
theorem ff_contents : (ff n w c pw rm it).lookup ("_contents" : Str) = some (.ref c) := (lk_past (by decide +kernel)).trans ((lk_past (by decide +kernel)).trans lk_here)
theorem ff_powered : (ff n w c pw rm it).lookup ("_powered" : Str) = some (.bl pw) := (lk_past (by decide +kernel)).trans ((lk_past (by decide +kernel)).trans ((lk_past (by decide +kernel)).trans lk_here))
theorem ff_remaining : (ff n w c pw rm it).lookup ("_remaining" : Str) = some rm := (lk_past (by decide +kernel)).trans ((lk_past (by decide +kernel)).trans ((lk_past (by decide +kernel)).trans ((lk_past (by decide +kernel)).trans lk_here)))
theorem ff_interrupted : (ff n w c pw rm it).lookup ("_interrupted" : Str) = some it := (lk_past (by decide +kernel)).trans ((lk_past (by decide +kernel)).trans ((lk_past (by decide +kernel)).trans ((lk_past (by decide +kernel)).trans ((lk_past (by decide +kernel)).trans lk_here))))
theorem ff_no {m : Str} (h : [("blocks" : Str), "_wears", "_contents", "_powered", "_remaining", "_interrupted"].all (fun g => !(m == g)) = true) : (ff n w c pw rm it).lookup m = Option.none := by
  simp only [List.all_cons, List.all_nil, Bool.and_true, Bool.and_eq_true, Bool.not_eq_true'] at h
  obtain ⟨h1, h2, h3, h4, h5, h6⟩ := h
  exact (lk_past h1).trans ((lk_past h2).trans ((lk_past h3).trans ((lk_past h4).trans ((lk_past h5).trans ((lk_past h6).trans rfl)))))
theorem ff_putP {b : Bool} : putF "_powered" (.bl b) (ff n w c pw rm it) = ff n w c b rm it := (put_past (by decide +kernel)).trans (congrArg _ ((put_past (by decide +kernel)).trans (congrArg _ ((put_past (by decide +kernel)).trans (congrArg _ put_here)))))
theorem ff_putR {v : V} : putF "_remaining" v (ff n w c pw rm it) = ff n w c pw v it := (put_past (by decide +kernel)).trans (congrArg _ ((put_past (by decide +kernel)).trans (congrArg _ ((put_past (by decide +kernel)).trans (congrArg _ ((put_past (by decide +kernel)).trans (congrArg _ put_here)))))))
theorem ff_putI {v : V} : putF "_interrupted" v (ff n w c pw rm it) = ff n w c pw rm v := (put_past (by decide +kernel)).trans (congrArg _ ((put_past (by decide +kernel)).trans (congrArg _ ((put_past (by decide +kernel)).trans (congrArg _ ((put_past (by decide +kernel)).trans (congrArg _ ((put_past (by decide +kernel)).trans (congrArg _ put_here)))))))))
theorem ff_len : (ff n w c pw rm it).length < 1000 := by show 6 < 1000; decide
end
/-- what was tracked elsewhere than at xs is as it was -/
def Off (xs : List Addr) (H H' : Hp) : Prop := ∀ b o, H b = some o → b ∉ xs → H' b = some o
structure FlashAt (C : Addr) (H : Hp) (p w c : Addr) (as : List Addr) (ws : List Int) (ps : List (List V)) (pw : Bool) (rm it : V) : Prop where
  ob : ∃ dx, H p = some (.ins C dx (ff (ps.length : Int) w c pw rm it))
  wl : H w = some (.lst (ws.map V.int))
  gr : Grid H c as ps
  lw : ws.length = ps.length
  pg : Pgs H ps
  nwc : w ≠ c
  nwa : w ∉ as
/-- what the top has written of the flash's class and the errors -/
structure FT (K : PySem.W.Frag) (mg : Str → Option Value) (C CN CP CS fW fB : Addr) : Prop where
  cl : Cls K C
  n1 : NoAttr K C "blocks"
  n2 : NoAttr K C "_wears"
  n3 : NoAttr K C "_contents"
  n4 : NoAttr K C "_powered"
  n5 : NoAttr K C "_remaining"
  n6 : NoAttr K C "_interrupted"
  gC : mg "Flash" = some (.ref C)
  gN : mg "NotValid" = some (.ref CN)
  xN : PySem.W.excIn K CN [.type "ValueError", .type "Exception", .type "BaseException", .type "object"] "ValueError.__new__" = true
  kN : PySem.W.keepIn K (.ref CN) = true
  bN : PySem.W.subIn K (.ref CN) (.type "BaseException") = some true
  tN : PySem.W.typeIn K (.ref CN) = some (.type "type")
  gP : mg "PowerOff" = some (.ref CP)
  xP : PySem.W.excIn K CP [.type "ValueError", .type "Exception", .type "BaseException", .type "object"] "ValueError.__new__" = true
  kP : PySem.W.keepIn K (.ref CP) = true
  bP : PySem.W.subIn K (.ref CP) (.type "BaseException") = some true
  tP : PySem.W.typeIn K (.ref CP) = some (.type "type")
  gS : mg "SpindleError" = some (.ref CS)
  eN : PySem.W.exmOne K (.ref CN) (.ref CS) = some true
  eP : PySem.W.exmOne K (.ref CP) (.ref CS) = some true
  gB : mg "is_between" = some (.ref fB)
  bd : Bds mg fW
  bt : Blt mg
  lst : mg "list" = Option.none
  tup : mg "tuple" = Option.none
  pag : ∃ t, mg "PAGES" = some (.int 8 t)
  mnb : ∃ t, mg "MIN_BLOCKS" = some (.int 8 t)
  mxb : ∃ t, mg "MAX_BLOCKS" = some (.int 24 t)
def era (v : V) : List V := if v = .non then [] else List.replicate 8 v
theorem row_era (v : V) : row (era v) = List.replicate 8 v := by
  unfold era
  by_cases h : v = .non
  · rw [if_pos h, h]; rfl
  · rw [if_neg h]; rfl
theorem pgs_era {H : Hp} {v : V} (h : v = .non ∨ PgN H v) : PgsN H (era v) := by
  unfold era
  by_cases e : v = .non
  · rw [if_pos e]; exact ⟨by simp, fun u hu => by cases hu⟩
  · rw [if_neg e]
    refine ⟨by simp, fun u hu => ?_⟩
    rw [List.mem_replicate] at hu
    rw [hu.2]
    exact h.resolve_left e
/-- what carrying an operation out makes: pg None: all pages of block b get cv; else the next page of block b gets it -/
def Carried (C : Addr) (H : Hp) (p w c : Addr) (as : List Addr) (ws : List Int) (ps : List (List V)) (pw : Bool) (rm it : V) (b : Nat) (pg cv : V) (Kt : Hp → Prop) : Prop :=
  (pg = .non ∧ (cv = .non ∨ PgN H cv) ∧ ∀ q H' wv, H q = Option.none → ws[b]? = some wv → FlashAt C H' p w c (as.set b q) (ws.set b (wv + 1)) (ps.set b (era cv)) pw rm it → Off (p :: w :: c :: as) H H' → Tups H H' → Kt H') ∨
  (∃ vs, ps[b]? = some vs ∧ pg = .int (vs.length : Int) ∧ vs.length < 8 ∧ PgN H cv ∧ ∀ H', FlashAt C H' p w c as ws (ps.set b (vs ++ [cv])) pw rm it → Off (p :: w :: c :: as) H H' → Tups H H' → Kt H')
def spCarry (C : Addr) : Sp := fun vs H Q _ => ∃ p w c as ws ps pw rm it b pg cv, vs = [.ref p, .int ((b : Nat) : Int), pg, cv] ∧ FlashAt C H p w c as ws ps pw rm it ∧ b < ps.length ∧ Carried C H p w c as ws ps pw rm it b pg cv (Q .non)
section
variable {P : Program} {wd : World} {K : PySem.W.Frag} {mg : Str → Option Value} {base : Heap} {f C CN CP CS fW fB : Addr} {fd fdB fdW : FuncData}
theorem scCarry : FnScope ["self", "block", "page", "content"] ["self", "block", "page", "content"] (defScope (cF 12)) := ⟨rfl, rfl, rfl, by decide +kernel, rfl, by decide +kernel, by decide +kernel⟩
theorem ok_carry (F : Fun K "_carry_out" "Flash._carry_out" (cF 12) f fd) (T : FT K mg C CN CP CS fW fB) : FnOk P wd K mg base CX0 1 f fd ["self", "block", "page", "content"] (spCarry C) := by
  refine F.ok scCarry (fun vs H Q E h => ?_) (fun cdv A outer s H vs Q E hr h => ?_)
  · obtain ⟨p, w, c, as, ws, ps, pw, rm, it, b, pg, cv, rfl, _⟩ := h
    rfl
  · obtain ⟨p, w, c, as, ws, ps, pw, rm, it, b, pg, cv, rfl, FA, hb, k⟩ := h
    obtain ⟨tk, hpag⟩ := T.pag
    obtain ⟨⟨dx, hob⟩, hwl, G, hlw, hpg, nwc, nwa⟩ := id FA
    refine ⟨_, pss_one (ps_if (pt_cmpR op_isN (pv 2) pe_non (nomark _))
      (pss_cons (ps_asg (pe_op op_rep (pe_lst (pa_cons (pv 3) pa_nil)) (pe_glob (v := .int 8) (by rfl) hpag ⟨_, rfl⟩)) (pg_sub (pe_fld (pv 0) rfl) (pv 1) set_list))
        (pss_one (ps_augS (pe_fld (pv 0) rfl) (pv 1) get_list pe_int ip_add set_list)))
      (pss_one (ps_asg (pv 3) (pg_sub (pe_ix ix_list (pe_fld (pv 0) rfl) (pv 1) (fun _ _ => rfl)) (pv 2) set_list)))), ?_⟩
    have hba : b < as.length := by rw [G.len]; exact hb
    have hbw : b < ws.length := by rw [hlw]; exact hb
    have npw : p ≠ w := ne_of hob hwl (by intro z; cases z)
    have npc : p ≠ c := ne_of hob G.ls (by intro z; cases z)
    refine ⟨_, rfl, rfl, _, rfl, ?_⟩
    rcases k with ⟨rfl, hcv, k⟩ | ⟨vs, hvs, rfl, hl8, hcv, k⟩
    · rw [decide_eq_true rfl]
      refine iteT ?_
      refine ⟨_, rfl, by show 1 ≤ sizeLine; decide, fun l hl => ?_⟩
      refine ⟨l, 8, [cv], rfl, rfl, upd_same, by decide, by decide, by show 8 ≤ sizeLine; decide, fun q hq => ?_⟩
      have hrep : (List.replicate (8 : Int).toNat [cv]).flatten = row (era cv) := by rw [row_era]; rfl
      rw [hrep]
      have npl : p ≠ l := ne_of_none hob hl
      have hqH : H q = Option.none := (same_new hl).free hq
      have npq : p ≠ q := ne_of_none hob hqH
      have hob1 : (upd (upd H l (.lst [cv])) q (.lst (row (era cv)))) p = some (.ins C dx (ff (ps.length : Int) w c pw rm it)) := by rw [upd_ne npq, upd_ne npl]; exact hob
      have ncl : c ≠ l := ne_of_none G.ls hl
      have ncq : c ≠ q := ne_of_none G.ls hqH
      have hc1 : (upd (upd H l (.lst [cv])) q (.lst (row (era cv)))) c = some (.lst (as.map V.ref)) := by rw [upd_ne ncq, upd_ne ncl]; exact G.ls
      refine ⟨_, rfl, p, C, dx, _, _, rfl, hob1, T.cl, T.n3, ff_contents, _, rfl, c, _, _, b, rfl, rfl, hc1, Evl.ixN_nat (by rw [List.length_map]; exact hba), ?_⟩
      have hset : (as.map V.ref).set b (V.ref q) = (as.set b q).map V.ref := by rw [List.map_set]
      rw [hset]
      generalize hH2 : upd (upd (upd H l (.lst [cv])) q (.lst (row (era cv)))) c (.lst ((as.set b q).map V.ref)) = H2
      have hwq : w ≠ q := ne_of_none hwl hqH
      have hwl' : w ≠ l := ne_of_none hwl hl
      have hob2 : H2 p = some (.ins C dx (ff (ps.length : Int) w c pw rm it)) := by rw [← hH2, upd_ne npc]; exact hob1
      have hw2 : H2 w = some (.lst (ws.map V.int)) := by rw [← hH2, upd_ne nwc, upd_ne hwq, upd_ne hwl']; exact hwl
      refine ⟨_, rfl, p, C, dx, _, _, rfl, hob2, T.cl, T.n2, ff_wears, _, rfl, w, _, b, .int ws[b], rfl, rfl, SqL.of hw2, get_map (List.getElem?_eq_getElem hbw), _, _, rfl, rfl, w, _, _, b, rfl, rfl, hw2, Evl.ixN_nat (by rw [List.length_map]; exact hbw), ?_⟩
      have hset2 : (ws.map V.int).set b (V.int (ws[b] + 1)) = (ws.set b (ws[b] + 1)).map V.int := by rw [List.map_set]
      rw [hset2]
      have keep : ∀ x o, H x = some o → x ≠ w → x ≠ c → (upd H2 w (.lst ((ws.set b (ws[b] + 1)).map V.int))) x = some o := fun x o hx h1 h2 => by
        rw [upd_ne h1, ← hH2, upd_ne h2, upd_ne (ne_of_none hx hqH), upd_ne (ne_of_none hx hl)]; exact hx
      have tp : Tups H (upd H2 w (.lst ((ws.set b (ws[b] + 1)).map V.int))) := fun t xs ht => keep t _ ht (ne_of ht hwl (by intro z; cases z)) (ne_of ht G.ls (by intro z; cases z))
      refine k q _ ws[b] hqH (List.getElem?_eq_getElem hbw) ⟨⟨dx, ?_⟩, upd_same, ?_, ?_, ?_, nwc, ?_⟩ ?_ tp
      · rw [List.length_set]; exact keep p _ hob npw npc
      · refine G.swap hqH ?_ ?_ ?_
        · rw [upd_ne nwc.symm, ← hH2, upd_same]
        · rw [upd_ne hwq.symm, ← hH2, upd_ne ncq.symm, upd_same]
        · intro x hx o ho
          exact keep x o ho (fun e => nwa (e ▸ hx)) (fun e => G.nc (e ▸ hx))
      · rw [List.length_set, List.length_set]; exact hlw
      · exact (hpg.mono tp).set ((pgs_era hcv).mono tp)
      · intro hm
        obtain ⟨j, hj⟩ := List.getElem?_of_mem hm
        rcases get_set_cases hj with ⟨_, e, _⟩ | ⟨_, e⟩
        · exact hwq e
        · exact nwa (List.mem_of_getElem? e)
      · intro x o ho hx
        simp only [List.mem_cons, not_or] at hx
        exact keep x o ho hx.2.1 hx.2.2.1
    · rw [decide_eq_false (by intro z; cases z)]
      refine iteF ?_
      obtain ⟨a, ha, hrow⟩ := G.at hvs
      refine ⟨_, rfl, _, rfl, p, C, dx, _, _, rfl, hob, T.cl, T.n3, ff_contents, _, rfl, c, _, _, _, rfl, rfl, SqL.of G.ls, atI_nat (get_map ha), _, rfl, a, _, _, vs.length, rfl, rfl, hrow, Evl.ixN_nat (by rw [row_len (by omega)]; exact hl8), ?_⟩
      rw [row_set hl8]
      have tp : Tups H (upd H a (.lst (row (vs ++ [cv])))) := Tups.lst hrow
      have nap : a ≠ p := ne_of hrow hob (by intro z; cases z)
      have nwa' : w ≠ a := fun e => nwa (e ▸ List.mem_of_getElem? ha)
      refine k _ ⟨⟨dx, ?_⟩, ?_, ?_, ?_, ?_, nwc, nwa⟩ ?_ tp
      · rw [List.length_set, upd_ne nap.symm]; exact hob
      · rw [upd_ne nwa']; exact hwl
      · exact G.prog ha upd_same fun x o hx ho => by rw [upd_ne hx]; exact ho
      · rw [List.length_set]; exact hlw
      · refine (hpg.mono tp).set ⟨by rw [List.length_append]; simp only [List.length_cons, List.length_nil]; omega, fun v hv => ?_⟩
        rcases List.mem_append.mp hv with h | h
        · exact ((hpg vs (List.mem_of_getElem? hvs)).2 v h).mono tp
        · rw [List.mem_singleton.mp h]; exact hcv.mono tp
      · intro x o ho hx
        simp only [List.mem_cons, not_or] at hx
        rw [upd_ne (fun e : x = a => hx.2.2.2 (by rw [e]; exact List.mem_of_getElem? ha))]; exact ho
end
end Sg

set_option Elab.async false
set_option linter.all false
set_option maxRecDepth 100000
set_option maxHeartbeats 4000000
namespace Sg
open PySem PySem.Spec PyProof.Rows L2
/-- self has so many blocks -/
def Blk (C : Addr) (H : Hp) (p : Addr) (n : Int) : Prop := ∃ dx fs, H p = some (.ins C dx fs) ∧ fs.lookup ("blocks" : Str) = some (.int n)
theorem FlashAt.blk {C : Addr} {H : Hp} {p w c : Addr} {as : List Addr} {ws : List Int} {ps : List (List V)} {pw : Bool} {rm it : V} (F : FlashAt C H p w c as ws ps pw rm it) : Blk C H p ps.length := by
  obtain ⟨dx, h⟩ := F.ob
  exact ⟨dx, _, h, ff_blocks⟩
def spCkB (C CN : Addr) : Sp := fun vs H Q E => ∃ p n b, vs = [.ref p, .int b] ∧ Blk C H p n ∧ (0 ≤ b ∧ b < n → Q .non H) ∧ (¬ (0 ≤ b ∧ b < n) → E (.ref CN) Option.none H)
def spCkP (C CN : Addr) : Sp := fun vs H Q E => ∃ p n b g, vs = [.ref p, .int b, .int g] ∧ (∃ dx fs, H p = some (.ins C dx fs) ∧ fs.lookup ("blocks" : Str) = some (.int n) ∧ fs.lookup ("_check_block" : Str) = Option.none) ∧
  ((0 ≤ b ∧ b < n) ∧ (0 ≤ g ∧ g < 8) → Q .non H) ∧ (¬ ((0 ≤ b ∧ b < n) ∧ (0 ≤ g ∧ g < 8)) → E (.ref CN) Option.none H)
def spPow (C CP : Addr) : Sp := fun vs H Q E => ∃ p pw dx fs, vs = [.ref p] ∧ H p = some (.ins C dx fs) ∧ fs.lookup ("_powered" : Str) = some (.bl pw) ∧ (pw = true → Q .non H) ∧ (pw = false → E (.ref CP) Option.none H)
section
variable {P : Program} {wd : World} {K : PySem.W.Frag} {mg : Str → Option Value} {base : Heap} {f C CN CP CS fW fB fk fk2 fk3 fk4 : Addr} {fd fdB fdW fdk fdk2 fdk3 fdk4 : FuncData}
abbrev passX {X : Cx} {W : WX} {E : XK} (tk : Takes X W) (h : ∀ cls d σ H, E cls d H → W cls d σ H) := passes_call (E := E) tk h
/-- raise NotValid() -/
theorem ps_notValid {X : Cx} {W : WX} {p pos pos2 : Pos} {C CN CP CS fW fB : Addr} (T : FT X.K X.mg C CN CP CS fW fB) (hc : X.calm = true) (tk : Takes X W) (hg : Gl X "NotValid") : PS X (.Raise (some (.Call (.Name "NotValid" p) [] [] pos)) none pos2) (fun _ σ H => W (.ref CN) Option.none σ H) :=
  ps_raise hc tk (pmk_own0 PySem.F.excBase_ValueError T.xN T.gN T.kN (raises_own T.bN T.tN) hg)
theorem ps_powerOff {X : Cx} {W : WX} {p pos pos2 : Pos} {C CN CP CS fW fB : Addr} (T : FT X.K X.mg C CN CP CS fW fB) (hc : X.calm = true) (tk : Takes X W) (hg : Gl X "PowerOff") : PS X (.Raise (some (.Call (.Name "PowerOff" p) [] [] pos)) none pos2) (fun _ σ H => W (.ref CP) Option.none σ H) :=
  ps_raise hc tk (pmk_own0 PySem.F.excBase_ValueError T.xP T.gP T.kP (raises_own T.bP T.tP) hg)
abbrev GBet (P : Program) (wd : World) (K : PySem.W.Frag) (mg : Str → Option Value) (base : Heap) (fB : Addr) (fdB : FuncData) : Prop := FnOk P wd K mg base CX0 2 fB fdB ["value", "low", "high"] (spBetween K) ∧ Binds K fdB ["value", "low", "high"] [] ∧ PySem.W.keepIn K (.ref fB) = true
theorem scCkB : FnScope ["self", "block"] ["self", "block"] (defScope (cF 8)) := ⟨rfl, rfl, rfl, by decide +kernel, rfl, by decide +kernel, by decide +kernel⟩
theorem ok_ckB (F : Fun K "_check_block" "Flash._check_block" (cF 8) f fd) (T : FT K mg C CN CP CS fW fB) (G : GBet P wd K mg base fB fdB) : FnOk P wd K mg base (L2.CX P wd) 3 f fd ["self", "block"] (spCkB C CN) := by
  obtain ⟨GB, bB, kB⟩ := G
  refine F.okX scCkB (fun vs H Q E h => ?_) (fun cdv A outer s H vs Q E hr h => ?_)
  · obtain ⟨p, n, b, rfl, _⟩ := h
    rfl
  · obtain ⟨p, n, b, rfl, ⟨dx, fs, hob, hn⟩, k1, k2⟩ := h
    refine ⟨_, pss_one (ps_if (pt_not (pt_val (pe_call GB hr (by rfl) T.gB kB bB .nil pass0 (pa_cons (pv 1) (pa_cons pe_int (pa_cons (pe_op op_sub (pe_fld (pv 0) rfl) pe_int) pa_nil)))))) (pss_one (ps_notValid T rfl (takes_of rfl rfl rfl rfl) (by rfl))) pss_nil), ?_⟩
    refine ⟨_, rfl, _, rfl, p, C, dx, _, _, rfl, hob, T.cl, T.n1, hn, _, _, rfl, rfl, _, _, _, rfl, .inl ⟨b, rfl, _, rfl, ?_⟩⟩
    by_cases c : 0 ≤ b ∧ b < n
    · rw [decide_eq_true c.1, decide_eq_true (show b ≤ n - 1 by omega)]
      exact iteF (k1 c)
    · have e : (decide (0 ≤ b) && decide (b ≤ n - 1)) = false := by
        rw [Bool.and_eq_false_iff, decide_eq_false_iff_not, decide_eq_false_iff_not]; omega
      rw [e]
      exact iteT (k2 c)
theorem scCkP : FnScope ["self", "block", "page"] ["self", "block", "page"] (defScope (cF 9)) := ⟨rfl, rfl, rfl, by decide +kernel, rfl, by decide +kernel, by decide +kernel⟩
theorem ok_ckP (F : Fun K "_check_page" "Flash._check_page" (cF 9) f fd) (T : FT K mg C CN CP CS fW fB) (G : GBet P wd K mg base fB fdB)
    (Gk : FnOk P wd K mg base (L2.CX P wd) 3 fk fdk ["self", "block"] (spCkB C CN)) (bk : Binds K fdk ["self", "block"] []) (mk : Meth K C "_check_block" fk) : FnOk P wd K mg base (L2.CX P wd) 4 f fd ["self", "block", "page"] (spCkP C CN) := by
  obtain ⟨GB, bB, kB⟩ := G
  obtain ⟨tk, hpag⟩ := T.pag
  refine F.okX scCkP (fun vs H Q E h => ?_) (fun cdv A outer s H vs Q E hr h => ?_)
  · obtain ⟨p, n, b, g, rfl, _⟩ := h
    rfl
  · obtain ⟨p, n, b, g, rfl, ⟨dx, fs, hob, hn, hm⟩, k1, k2⟩ := h
    have hr2 : Room 2 _ := hr.mono (by decide)
    refine ⟨_, pss_cons (ps_expr (pe_meth (pv 0) T.cl mk Gk hr bk .nil (passX (E := E) (takes_of rfl rfl rfl rfl) (fun _ _ _ _ z => z)) (pa_cons (pv 1) pa_nil)))
      (pss_one (ps_if (pt_not (pt_val (pe_call GB hr2 (by rfl) T.gB kB bB .nil pass0 (pa_cons (pv 2) (pa_cons pe_int (pa_cons (pe_op op_sub (pe_glob (v := .int 8) (by rfl) hpag ⟨_, rfl⟩) pe_int) pa_nil)))))) (pss_one (ps_notValid T rfl (takes_of rfl rfl rfl rfl) (by rfl))) pss_nil)), ?_⟩
    refine ⟨_, rfl, p, dx, fs, rfl, hob, hm, _, rfl, p, n, b, rfl, ⟨dx, fs, hob, hn⟩, fun c1 => ?_, fun c1 => k2 (fun z => c1 z.1)⟩
    refine ⟨_, rfl, _, _, rfl, rfl, _, _, _, rfl, .inl ⟨g, rfl, _, rfl, ?_⟩⟩
    by_cases c : 0 ≤ g ∧ g < 8
    · rw [decide_eq_true c.1, decide_eq_true (show g ≤ 8 - 1 by omega)]
      exact iteF (k1 ⟨c1, c⟩)
    · have e : (decide (0 ≤ g) && decide (g ≤ 8 - 1)) = false := by
        rw [Bool.and_eq_false_iff, decide_eq_false_iff_not, decide_eq_false_iff_not]; omega
      rw [e]
      exact iteT (k2 fun z => c z.2)
theorem scPow : FnScope ["self"] ["self"] (defScope (cF 10)) := ⟨rfl, rfl, rfl, by decide +kernel, rfl, by decide +kernel, by decide +kernel⟩
theorem ok_pow (F : Fun K "_check_power" "Flash._check_power" (cF 10) f fd) (T : FT K mg C CN CP CS fW fB) : FnOk P wd K mg base (L2.CX P wd) 1 f fd ["self"] (spPow C CP) := by
  refine F.okX scPow (fun vs H Q E h => ?_) (fun cdv A outer s H vs Q E hr h => ?_)
  · obtain ⟨p, pw, dx, fs, rfl, _⟩ := h
    rfl
  · obtain ⟨p, pw, dx, fs, rfl, hob, hl, k1, k2⟩ := h
    refine ⟨_, pss_one (ps_if (pt_not (pt_val (pe_fld (pv 0) rfl))) (pss_one (ps_powerOff T rfl (takes_of rfl rfl rfl rfl) (by rfl))) pss_nil), ?_⟩
    refine ⟨_, rfl, p, C, dx, _, _, rfl, hob, T.cl, T.n4, hl, pw, rfl, ?_⟩
    cases pw with
    | true => exact iteF (k1 rfl)
    | false => exact iteT (k2 rfl)
/-- an operation: the power is off, or it fails in this one, or the operation is carried out -/
def remAfter : V → V
  | .int r => .int (r - 1)
  | v => v
/-- what becomes of an operation (pg, cv as in Carried): E of an error that leaves it, Kt of the heap behind it -/
def Opered (C CP : Addr) (H : Hp) (p w c : Addr) (as : List Addr) (ws : List Int) (ps : List (List V)) (pw : Bool) (rm it : V) (b : Nat) (pg cv : V) (E : XK) (Kt : Hp → Prop) : Prop :=
  (pw = false → E (.ref CP) Option.none H) ∧
  (pw = true → rm = .int 0 → ∀ t H', H t = Option.none → H' t = some (.tup [.int (b : Int), pg, cv]) → FlashAt C H' p w c as ws ps false (.int 0) (.ref t) → Off [p] H H' → Tups H H' → E (.ref CP) Option.none H') ∧
  (pw = true → rm ≠ .int 0 → ∀ H', FlashAt C H' p w c as ws ps pw (remAfter rm) it → Off [p] H H' → Tups H H' → Carried C H' p w c as ws ps pw (remAfter rm) it b pg cv Kt)
def spOper (C CP : Addr) : Sp := fun vs H Q E => ∃ p w c as ws ps pw rm it b pg cv, vs = [.ref p, .int ((b : Nat) : Int), pg, cv] ∧ FlashAt C H p w c as ws ps pw rm it ∧ b < ps.length ∧ (rm = .non ∨ ∃ r, rm = .int r) ∧
  Opered C CP H p w c as ws ps pw rm it b pg cv E (Q .non)
theorem scOper : FnScope ["self", "block", "page", "content"] ["self", "block", "page", "content"] (defScope (cF 11)) := ⟨rfl, rfl, rfl, by decide +kernel, rfl, by decide +kernel, by decide +kernel⟩
theorem FlashAt.fields {H : Hp} {p w c : Addr} {as : List Addr} {ws : List Int} {ps : List (List V)} {pw pw' : Bool} {rm it rm' it' : V} {dx : Addr} {o : HO} (F : FlashAt C H p w c as ws ps pw rm it) (hp : H p = some (.ins C dx (ff (ps.length : Int) w c pw rm it)))
    (e : o = .ins C dx (ff (ps.length : Int) w c pw' rm' it')) : FlashAt C (upd H p o) p w c as ws ps pw' rm' it' ∧ Off [p] H (upd H p o) ∧ Tups H (upd H p o) := by
  subst e
  refine ⟨⟨⟨dx, upd_same⟩, ?_, ?_, F.lw, F.pg.mono (Tups.ins hp), F.nwc, F.nwa⟩, fun b o ho hb => ?_, Tups.ins hp⟩
  · rw [upd_ne (ne_of F.wl hp (by intro z; cases z))]; exact F.wl
  · refine F.gr.keep (fun o h => ?_) (fun a ha o h => ?_)
    · rw [upd_ne (ne_of F.gr.ls hp (by intro z; cases z))]; exact h
    · obtain ⟨j, hj⟩ := List.getElem?_of_mem ha
      have hjl : j < ps.length := by rw [← F.gr.len]; exact (List.getElem?_eq_some_iff.mp hj).1
      rw [upd_ne (ne_of (F.gr.rows j a _ hj (List.getElem?_eq_getElem hjl)) hp (by intro z; cases z))]; exact h
  · rw [upd_ne (by simpa using hb)]; exact ho
theorem ok_oper (F : Fun K "_operate" "Flash._operate" (cF 11) f fd) (T : FT K mg C CN CP CS fW fB) 
    (Gk : FnOk P wd K mg base (L2.CX P wd) 1 fk fdk ["self"] (spPow C CP)) (bk : Binds K fdk ["self"] []) (mk : Meth K C "_check_power" fk)
    (Gk2 : FnOk P wd K mg base CX0 1 fk2 fdk2 ["self", "block", "page", "content"] (spCarry C)) (bk2 : Binds K fdk2 ["self", "block", "page", "content"] []) (mk2 : Meth K C "_carry_out" fk2) : FnOk P wd K mg base (L2.CX P wd) 2 f fd ["self", "block", "page", "content"] (spOper C CP) := by
  refine F.okX scOper (fun vs H Q E h => ?_) (fun cdv A outer s H vs Q E hr h => ?_)
  · obtain ⟨p, w, c, as, ws, ps, pw, rm, it, b, pg, cv, rfl, _⟩ := h
    rfl
  · obtain ⟨p, w, c, as, ws, ps, pw, rm, it, b, pg, cv, rfl, FA, hb, hrm, k1, k2, k3⟩ := h
    obtain ⟨dx, hob⟩ := id FA.ob
    refine ⟨_, pss_cons (ps_expr (pe_meth0 (pv 0) T.cl mk Gk hr bk .nil (passX (E := E) (takes_of rfl rfl rfl rfl) (fun _ _ _ _ z => z))))
      (pss_cons (ps_if (pt_cmpR op_eq (pe_fld (pv 0) rfl) pe_int (nomark _))
        (pss_cons (ps_fld (pv 0) pe_bl rfl) (pss_cons (ps_fld (pv 0) (pe_tup (pa_cons (pv 1) (pa_cons (pv 2) (pa_cons (pv 3) pa_nil)))) rfl) (pss_one (ps_powerOff T rfl (takes_of rfl rfl rfl rfl) (by rfl))))) pss_nil)
      (pss_cons (ps_if (pt_cmpR op_notN (pe_fld (pv 0) rfl) pe_non (nomark _)) (pss_one (ps_fldaug (pv 0) pe_int in_sub)) pss_nil)
      (pss_one (ps_expr (pe_meth (pv 0) T.cl mk2 Gk2 hr bk2 .nil pass0 (pa_cons (pv 1) (pa_cons (pv 2) (pa_cons (pv 3) pa_nil)))))))), ?_⟩
    refine ⟨_, rfl, p, dx, _, rfl, hob, ff_no (by decide +kernel), p, pw, dx, _, rfl, hob, ff_powered, fun hp => ?_, k1⟩
    subst hp
    refine ⟨_, rfl, p, C, dx, _, _, rfl, hob, T.cl, T.n5, ff_remaining, ?_⟩
    rcases hrm with rfl | ⟨r, rfl⟩
    · -- None
      refine ⟨rfl, _, rfl, ?_⟩
      rw [decide_eq_false (by intro z; cases z)]
      refine iteF ?_
      refine ⟨_, rfl, p, C, dx, _, _, rfl, hob, T.cl, T.n5, ff_remaining, rfl, _, rfl, ?_⟩
      rw [decide_eq_true rfl]
      refine iteF ?_
      exact ⟨_, rfl, p, dx, _, rfl, hob, ff_no (by decide +kernel), _, rfl, _, rfl, _, rfl, p, w, c, as, ws, ps, true, .non, it, b, pg, cv, rfl, FA, hb, k3 rfl (by intro z; cases z) H FA (fun _ _ h _ => h) (fun _ _ h => h)⟩
    · refine ⟨rfl, _, rfl, ?_⟩
      by_cases c0 : r = 0
      · subst c0
        rw [decide_eq_true rfl]
        refine iteT ?_
        have hlen : ∀ {pw : Bool} {rm it : V}, (ff (ps.length : Int) w c pw rm it).length < 1000 := ff_len
        refine ⟨_, rfl, p, C, dx, _, rfl, hob, T.cl, T.n4, ff_len, _, rfl, _, rfl, _, rfl, by show 3 ≤ sizeLine; decide, fun t ht => ?_⟩
        have npt : p ≠ t := ne_of_none (upd_same (H := H) (a := p) (o := .ins C dx (putF "_powered" (.bl false) (ff (ps.length : Int) w c true (.int 0) it)))) ht
        refine ⟨_, rfl, p, C, dx, _, rfl, (by rw [upd_ne npt]; exact upd_same), T.cl, T.n6, (by rw [ff_putP]; exact ff_len), ?_⟩
        have htH : H t = Option.none := by rw [upd_ne npt.symm] at ht; exact ht
        rw [ff_putP, ff_putI]
        obtain ⟨A1, A2, A3⟩ := FA.fields (o := .ins C dx (ff (ps.length : Int) w c false (.int 0) (.ref t))) (pw' := false) (rm' := .int 0) (it' := .ref t) hob rfl
        have eH : upd (upd (upd H p (.ins C dx (ff (ps.length : Int) w c false (.int 0) it))) t (.tup [.int (b : Int), pg, cv])) p (.ins C dx (ff (ps.length : Int) w c false (.int 0) (.ref t))) = upd (upd H p (.ins C dx (ff (ps.length : Int) w c false (.int 0) (.ref t)))) t (.tup [.int (b : Int), pg, cv]) := by
          funext x
          unfold upd
          by_cases h1 : x = p
          · subst h1; rw [if_pos rfl, if_neg npt, if_pos rfl]
          · rw [if_neg h1]
            by_cases h2 : x = t
            · rw [if_pos h2, if_pos h2]
            · rw [if_neg h2, if_neg h1, if_neg h2, if_neg h1]
        rw [eH]
        have hfree : (upd H p (.ins C dx (ff (ps.length : Int) w c false (.int 0) (.ref t)))) t = Option.none := by rw [upd_ne npt.symm]; exact htH
        have sm := same_new (o := .tup [.int (b : Int), pg, cv]) hfree
        refine k2 rfl rfl t _ htH upd_same ⟨?_, ?_, A1.gr.same sm, A1.lw, A1.pg.mono (same_tups sm), A1.nwc, A1.nwa⟩ (fun x o hx hn => sm _ _ (A2 x o hx hn)) (A3.trans (same_tups sm))
        · obtain ⟨dx', h'⟩ := A1.ob
          exact ⟨dx', sm _ _ h'⟩
        · exact sm _ _ A1.wl
      · rw [decide_eq_false (by intro z; cases z; exact c0 rfl)]
        refine iteF ?_
        refine ⟨_, rfl, p, C, dx, _, _, rfl, hob, T.cl, T.n5, ff_remaining, rfl, _, rfl, ?_⟩
        rw [decide_eq_false (by intro z; cases z)]
        refine iteT ?_
        refine ⟨_, rfl, p, C, dx, _, _, rfl, hob, T.cl, T.n5, ff_remaining, _, _, rfl, rfl, dx, _, hob, ff_len, ?_⟩
        rw [ff_putR]
        obtain ⟨A1, A2, A3⟩ := FA.fields (o := .ins C dx (ff (ps.length : Int) w c true (.int (r - 1)) it)) (pw' := true) (rm' := .int (r - 1)) (it' := it) hob rfl
        refine ⟨_, rfl, p, dx, _, rfl, upd_same, ff_no (by decide +kernel), _, rfl, _, rfl, _, rfl, p, w, c, as, ws, ps, true, .int (r - 1), it, b, pg, cv, rfl, A1, hb, k3 rfl (by intro z; cases z; exact c0 rfl) _ A1 A2 A3⟩
end
end Sg

set_option Elab.async false
set_option linter.all false
set_option maxRecDepth 100000
set_option maxHeartbeats 4000000
namespace Sg
open PySem PySem.Spec PyProof.Rows L2
abbrev sFirst : Stmt := top 14
theorem hu65 {k : Nat} {A : Around} (hr : Room k A) : A.units + 65 < cLine := by have := hr.un; omega
theorem yesIte {σ : L2.St} {H : Hp} {A B : Hp → Prop} (h : A H) : tYes σ H (fun b H3 => if b = true then A H3 else B H3) := by
  show (if true = true then A H else B H)
  rw [if_pos rfl]; exact h
def rListOf (K : PySem.W.Frag) : List V → Hp → VK → Prop := fun xs H Q => ∃ p ys, xs = [.ref p] ∧ (SqL K H p ys ∨ SqT K H p ys) ∧ ∀ l, H l = Option.none → Q (.ref l) (upd H l (.lst ys))
theorem call_listOf {X : Cx} : CallR X (.type "list") (rListOf X.K) := call_list_of
def spFirst : Sp := fun vs H Q _ => ∃ a xs, vs = [.ref a] ∧ H a = some (.lst (row xs)) ∧ PgsN H xs ∧ Q (.int (xs.length : Int)) H
def ImgNew (H0 H : Hp) (r : Addr) (ws : List Int) (ps : List (List V)) : Prop := H0 r = Option.none ∧ ∃ tr : List Addr, H r = some (.lst (tr.map V.ref)) ∧ tr.length = ps.length ∧
  ∀ (i : Nat) (t : Addr), tr[i]? = some t → ∃ (wv : Int) (c : Addr) (vs : List V), ws[i]? = some wv ∧ ps[i]? = some vs ∧ H t = some (.tup [.int wv, .ref c]) ∧ H c = some (.lst (row vs)) ∧ H0 t = Option.none ∧ H0 c = Option.none
theorem ImgNew.at_ {H0 H : Hp} {r : Addr} {ws : List Int} {ps : List (List V)} (h : ImgNew H0 H r ws ps) : ImgAt H r ws ps := by
  obtain ⟨_, tr, h1, h2, h3⟩ := h
  refine ⟨tr, h1, h2, fun i t ht => ?_⟩
  obtain ⟨wv, c, vs, a, b, d, e, _, _⟩ := h3 i t ht
  exact ⟨wv, c, vs, a, b, d, e⟩
def spRead (C CN CP : Addr) : Sp := fun vs H Q E => ∃ p w c as ws ps pw rm it b g, vs = [.ref p, .int b, .int g] ∧ FlashAt C H p w c as ws ps pw rm it ∧
  (¬ ((0 ≤ b ∧ b < (ps.length : Int)) ∧ (0 ≤ g ∧ g < 8)) → E (.ref CN) Option.none H) ∧
  (∀ (j i : Nat) vs v, b = (j : Int) → g = (i : Int) → ps[j]? = some vs → (row vs)[i]? = some v → (pw = false → E (.ref CP) Option.none H) ∧ (pw = true → Q v H))
def spWear (C CN : Addr) : Sp := fun vs H Q E => ∃ p w c as ws ps pw rm it b, vs = [.ref p, .int b] ∧ FlashAt C H p w c as ws ps pw rm it ∧
  (¬ (0 ≤ b ∧ b < (ps.length : Int)) → E (.ref CN) Option.none H) ∧ (∀ (j : Nat) wv, b = (j : Int) → ws[j]? = some wv → Q (.int wv) H)
def spErase (C CN CP : Addr) : Sp := fun vs H Q E => ∃ p w c as ws ps pw rm it b, vs = [.ref p, .int b] ∧ FlashAt C H p w c as ws ps pw rm it ∧ (rm = .non ∨ ∃ r, rm = .int r) ∧
  (¬ (0 ≤ b ∧ b < (ps.length : Int)) → E (.ref CN) Option.none H) ∧ (∀ j : Nat, b = (j : Int) → j < ps.length → Opered C CP H p w c as ws ps pw rm it j .non .non E (Q .non))
/-- a record: a tuple, or something else -/
def spProg (K : PySem.W.Frag) (C CN CP : Addr) : Sp := fun vs H Q E => ∃ p w c as ws ps pw rm it b g rv tv isT, vs = [.ref p, .int b, .int g, rv] ∧ FlashAt C H p w c as ws ps pw rm it ∧ (rm = .non ∨ ∃ r, rm = .int r) ∧
  TyX K H rv tv ∧ PySem.W.kitOne K tv (.type "tuple") = some isT ∧
  (¬ ((0 ≤ b ∧ b < (ps.length : Int)) ∧ (0 ≤ g ∧ g < 8) ∧ isT = true ∧ ∃ (j : Nat) (vs : List V), b = (j : Int) ∧ ps[j]? = some vs ∧ g = (vs.length : Int)) → E (.ref CN) Option.none H) ∧
  (∀ (j : Nat) (vs : List V), b = (j : Int) → ps[j]? = some vs → g = (vs.length : Int) → vs.length < 8 → isT = true → Opered C CP H p w c as ws ps pw rm it j (.int (vs.length : Int)) rv E (Q .non))
def spImage (C : Addr) : Sp := fun vs H Q _ => ∃ p w c as ws ps pw rm it, vs = [.ref p] ∧ FlashAt C H p w c as ws ps pw rm it ∧ ps.length ≤ 100 ∧ ∀ r H', Same H H' → ImgNew H H' r ws ps → Q (.ref r) H'
def spInit (C CN : Addr) : Sp := fun vs H Q E => ∃ p dx n, vs = [.ref p, .int n] ∧ H p = some (.ins C dx []) ∧
  (∀ m : Nat, n = (m : Int) → 8 ≤ m → m ≤ 24 → ∀ w c as H', FlashAt C H' p w c as (List.replicate m 0) (List.replicate m []) true .non .non → H w = Option.none → H c = Option.none → (∀ a ∈ as, H a = Option.none) → Off [p] H H' → Tups H H' → Q .non H') ∧
  (¬ (8 ≤ n ∧ n ≤ 24) → E (.ref CN) Option.none H)
section
variable {P : Program} {wd : World} {K : PySem.W.Frag} {mg : Str → Option Value} {base : Heap} {f C CN CP CS fW fB fk fk2 fk3 fk4 : Addr} {fd fdB fdW fdk fdk2 fdk3 fdk4 : FuncData}
theorem scFirst : FnScope ["pages"] ["pages"] (defScope sFirst) := ⟨rfl, rfl, rfl, by decide +kernel, rfl, by decide +kernel, by decide +kernel⟩
theorem ok_first (F : Fun K "first_erased" "first_erased" sFirst f fd) (T : FT K mg C CN CP CS fW fB) : FnOk P wd K mg base CX0 1 f fd ["pages"] spFirst := by
  obtain ⟨tk, hpag⟩ := T.pag
  refine F.ok scFirst (fun vs H Q E h => ?_) (fun cdv A outer s H vs Q E hr h => ?_)
  · obtain ⟨a, xs, rfl, _⟩ := h
    rfl
  · obtain ⟨a, xs, rfl, ha, hx, q⟩ := h
    refine ⟨_, pss_one (ps_ret (pe_op op_sub (pe_glob (v := .int 8) (by rfl) hpag ⟨_, rfl⟩) (pe_bm PySem.F.plainAttrs_list PySem.F.slot_list_count PySem.F.type_list_count (mt_countD (hu65 hr)) (pv 0) (pa_cons pe_non pa_nil)))), ?_⟩
    obtain ⟨ds, d1, d2, d3, d4⟩ := row_dp (K := K) hx
    refine ⟨_, rfl, .inl ⟨rfl, _, SqL.of ha⟩, a, .non, .none, ds, rfl, rfl, .lst (SqL.of ha) d1, .non, shaped_list d2 (by omega), by decide, _, _, rfl, rfl, ?_⟩
    have e : (8 : Int) - ((ds.countP (fun z => PyData.eqv z .none) : Nat) : Int) = (xs.length : Int) := by
      have := hx.1
      rw [d4]; omega
    show Q (.int ((8 : Int) - ((ds.countP (fun z => PyData.eqv z .none) : Nat) : Int))) H
    rw [e]; exact q
theorem FlashAt.ckP {H : Hp} {p w c : Addr} {as : List Addr} {ws : List Int} {ps : List (List V)} {pw : Bool} {rm it : V} (F : FlashAt C H p w c as ws ps pw rm it) : ∃ dx fs, H p = some (.ins C dx fs) ∧ fs.lookup ("blocks" : Str) = some (.int (ps.length : Int)) ∧ fs.lookup ("_check_block" : Str) = Option.none := by
  obtain ⟨dx, h⟩ := F.ob
  exact ⟨dx, _, h, ff_blocks, ff_no (by decide +kernel)⟩
theorem scRead : FnScope ["self", "block", "page"] ["self", "block", "page"] (defScope (cF 1)) := ⟨rfl, rfl, rfl, by decide +kernel, rfl, by decide +kernel, by decide +kernel⟩
theorem ok_read (F : Fun K "read" "Flash.read" (cF 1) f fd) (T : FT K mg C CN CP CS fW fB)
    (Gk : FnOk P wd K mg base (L2.CX P wd) 4 fk fdk ["self", "block", "page"] (spCkP C CN)) (bk : Binds K fdk ["self", "block", "page"] []) (mk : Meth K C "_check_page" fk)
    (Gk2 : FnOk P wd K mg base (L2.CX P wd) 1 fk2 fdk2 ["self"] (spPow C CP)) (bk2 : Binds K fdk2 ["self"] []) (mk2 : Meth K C "_check_power" fk2) : FnOk P wd K mg base (L2.CX P wd) 5 f fd ["self", "block", "page"] (spRead C CN CP) := by
  refine F.okX scRead (fun vs H Q E h => ?_) (fun cdv A outer s H vs Q E hr h => ?_)
  · obtain ⟨p, w, c, as, ws, ps, pw, rm, it, b, g, rfl, _⟩ := h
    rfl
  · obtain ⟨p, w, c, as, ws, ps, pw, rm, it, b, g, rfl, FA, k1, k2⟩ := h
    obtain ⟨dx, hob⟩ := id FA.ob
    have hr1 : Room 1 _ := hr.mono (by decide)
    refine ⟨_, pss_cons (ps_expr (pe_meth (pv 0) T.cl mk Gk hr bk .nil (passX (E := E) (takes_of rfl rfl rfl rfl) (fun _ _ _ _ z => z)) (pa_cons (pv 1) (pa_cons (pv 2) pa_nil))))
      (pss_cons (ps_expr (pe_meth0 (pv 0) T.cl mk2 Gk2 hr1 bk2 .nil (passX (E := E) (takes_of rfl rfl rfl rfl) (fun _ _ _ _ z => z))))
      (pss_one (ps_ret (pe_ix ix_list (pe_ix ix_list (pe_fld (pv 0) rfl) (pv 1) (fun _ _ => rfl)) (pv 2) (fun _ _ => rfl))))), ?_⟩
    refine ⟨_, rfl, p, dx, _, rfl, hob, ff_no (by decide +kernel), _, rfl, _, rfl, p, _, b, g, rfl, FA.ckP, fun ⟨hb, hg⟩ => ?_, k1⟩
    obtain ⟨j, rfl⟩ : ∃ j : Nat, b = (j : Int) := ⟨b.toNat, by omega⟩
    obtain ⟨i, rfl⟩ : ∃ i : Nat, g = (i : Int) := ⟨g.toNat, by omega⟩
    have hj : j < ps.length := by omega
    have hvs : ps[j]? = some ps[j] := List.getElem?_eq_getElem hj
    obtain ⟨a, ha, hrow⟩ := FA.gr.at hvs
    have h8 := row_len (FA.pg _ (List.mem_of_getElem? hvs)).1
    have hi : i < (row ps[j]).length := by rw [h8]; omega
    have hv : (row ps[j])[i]? = some (row ps[j])[i] := List.getElem?_eq_getElem hi
    obtain ⟨k3, k4⟩ := k2 j i _ _ rfl rfl hvs hv
    refine ⟨_, rfl, p, dx, _, rfl, hob, ff_no (by decide +kernel), p, pw, dx, _, rfl, hob, ff_powered, fun hp => ?_, k3⟩
    refine ⟨_, rfl, p, C, dx, _, _, rfl, hob, T.cl, T.n3, ff_contents, _, rfl, c, _, _, _, rfl, rfl, SqL.of FA.gr.ls, atI_nat (get_map ha), _, rfl, a, _, _, _, rfl, rfl, SqL.of hrow, atI_nat hv, k4 hp⟩
theorem scWear : FnScope ["self", "block"] ["self", "block"] (defScope (cF 4)) := ⟨rfl, rfl, rfl, by decide +kernel, rfl, by decide +kernel, by decide +kernel⟩
theorem ok_wear (F : Fun K "wear" "Flash.wear" (cF 4) f fd) (T : FT K mg C CN CP CS fW fB)
    (Gk : FnOk P wd K mg base (L2.CX P wd) 3 fk fdk ["self", "block"] (spCkB C CN)) (bk : Binds K fdk ["self", "block"] []) (mk : Meth K C "_check_block" fk) : FnOk P wd K mg base (L2.CX P wd) 4 f fd ["self", "block"] (spWear C CN) := by
  refine F.okX scWear (fun vs H Q E h => ?_) (fun cdv A outer s H vs Q E hr h => ?_)
  · obtain ⟨p, w, c, as, ws, ps, pw, rm, it, b, rfl, _⟩ := h
    rfl
  · obtain ⟨p, w, c, as, ws, ps, pw, rm, it, b, rfl, FA, k1, k2⟩ := h
    obtain ⟨dx, hob⟩ := id FA.ob
    refine ⟨_, pss_cons (ps_expr (pe_meth (pv 0) T.cl mk Gk hr bk .nil (passX (E := E) (takes_of rfl rfl rfl rfl) (fun _ _ _ _ z => z)) (pa_cons (pv 1) pa_nil)))
      (pss_one (ps_ret (pe_ix ix_list (pe_fld (pv 0) rfl) (pv 1) (fun _ _ => rfl)))), ?_⟩
    refine ⟨_, rfl, p, dx, _, rfl, hob, ff_no (by decide +kernel), _, rfl, p, _, b, rfl, FA.blk, fun hb => ?_, k1⟩
    obtain ⟨j, rfl⟩ : ∃ j : Nat, b = (j : Int) := ⟨b.toNat, by omega⟩
    have hj : j < ws.length := by have := FA.lw; omega
    have hv : ws[j]? = some ws[j] := List.getElem?_eq_getElem hj
    exact ⟨_, rfl, p, C, dx, _, _, rfl, hob, T.cl, T.n2, ff_wears, _, rfl, w, _, _, _, rfl, rfl, SqL.of FA.wl, atI_nat (get_map hv), k2 j _ rfl hv⟩
theorem scErase : FnScope ["self", "block"] ["self", "block"] (defScope (cF 3)) := ⟨rfl, rfl, rfl, by decide +kernel, rfl, by decide +kernel, by decide +kernel⟩
theorem ok_erase (F : Fun K "erase" "Flash.erase" (cF 3) f fd) (T : FT K mg C CN CP CS fW fB)
    (Gk : FnOk P wd K mg base (L2.CX P wd) 3 fk fdk ["self", "block"] (spCkB C CN)) (bk : Binds K fdk ["self", "block"] []) (mk : Meth K C "_check_block" fk)
    (Gk2 : FnOk P wd K mg base (L2.CX P wd) 2 fk2 fdk2 ["self", "block", "page", "content"] (spOper C CP)) (bk2 : Binds K fdk2 ["self", "block", "page", "content"] []) (mk2 : Meth K C "_operate" fk2) : FnOk P wd K mg base (L2.CX P wd) 4 f fd ["self", "block"] (spErase C CN CP) := by
  refine F.okX scErase (fun vs H Q E h => ?_) (fun cdv A outer s H vs Q E hr h => ?_)
  · obtain ⟨p, w, c, as, ws, ps, pw, rm, it, b, rfl, _⟩ := h
    rfl
  · obtain ⟨p, w, c, as, ws, ps, pw, rm, it, b, rfl, FA, hrm, k1, k2⟩ := h
    obtain ⟨dx, hob⟩ := id FA.ob
    have hr2 : Room 2 _ := hr.mono (by decide)
    refine ⟨_, pss_cons (ps_expr (pe_meth (pv 0) T.cl mk Gk hr bk .nil (passX (E := E) (takes_of rfl rfl rfl rfl) (fun _ _ _ _ z => z)) (pa_cons (pv 1) pa_nil)))
      (pss_one (ps_expr (pe_meth (pv 0) T.cl mk2 Gk2 hr2 bk2 .nil (passX (E := E) (takes_of rfl rfl rfl rfl) (fun _ _ _ _ z => z)) (pa_cons (pv 1) (pa_cons pe_non (pa_cons pe_non pa_nil)))))), ?_⟩
    refine ⟨_, rfl, p, dx, _, rfl, hob, ff_no (by decide +kernel), _, rfl, p, _, b, rfl, FA.blk, fun hb => ?_, k1⟩
    obtain ⟨j, rfl⟩ : ∃ j : Nat, b = (j : Int) := ⟨b.toNat, by omega⟩
    have hj : j < ps.length := by omega
    exact ⟨_, rfl, p, dx, _, rfl, hob, ff_no (by decide +kernel), _, rfl, p, w, c, as, ws, ps, pw, rm, it, j, .non, .non, rfl, FA, hj, hrm, k2 j rfl hj⟩
theorem scProg : FnScope ["self", "block", "page", "record"] ["self", "block", "page", "record"] (defScope (cF 2)) := ⟨rfl, rfl, rfl, by decide +kernel, rfl, by decide +kernel, by decide +kernel⟩
theorem ok_prog (F : Fun K "program" "Flash.program" (cF 2) f fd) (T : FT K mg C CN CP CS fW fB)
    (Gk : FnOk P wd K mg base (L2.CX P wd) 4 fk fdk ["self", "block", "page"] (spCkP C CN)) (bk : Binds K fdk ["self", "block", "page"] []) (mk : Meth K C "_check_page" fk)
    (Gk2 : FnOk P wd K mg base (L2.CX P wd) 2 fk2 fdk2 ["self", "block", "page", "content"] (spOper C CP)) (bk2 : Binds K fdk2 ["self", "block", "page", "content"] []) (mk2 : Meth K C "_operate" fk2)
    (Gk3 : FnOk P wd K mg base CX0 1 fk3 fdk3 ["pages"] spFirst) (bk3 : Binds K fdk3 ["pages"] []) (kk3 : PySem.W.keepIn K (.ref fk3) = true) (mk3 : mg "first_erased" = some (.ref fk3)) : FnOk P wd K mg base (L2.CX P wd) 5 f fd ["self", "block", "page", "record"] (spProg K C CN CP) := by
  refine F.okX scProg (fun vs H Q E h => ?_) (fun cdv A outer s H vs Q E hr h => ?_)
  · obtain ⟨p, w, c, as, ws, ps, pw, rm, it, b, g, rv, tv, isT, rfl, _⟩ := h
    rfl
  · obtain ⟨p, w, c, as, ws, ps, pw, rm, it, b, g, rv, tv, isT, rfl, FA, hrm, ty, kit, k1, k2⟩ := h
    obtain ⟨dx, hob⟩ := id FA.ob
    have hr2 : Room 2 _ := hr.mono (by decide)
    have hr1 : Room 1 _ := hr.mono (by decide)
    refine ⟨_, pss_cons (ps_expr (pe_meth (pv 0) T.cl mk Gk hr bk .nil (passX (E := E) (takes_of rfl rfl rfl rfl) (fun _ _ _ _ z => z)) (pa_cons (pv 1) (pa_cons (pv 2) pa_nil))))
      (pss_cons (ps_if (PW.pt (pw_or (pt_not (pt_val (pe_callB call_isi (by rfl) T.bd.isi boot_isi (pa_cons (pv 3) (pa_cons (pe_bltn (v := .ty "tuple") (by rfl) T.tup boot_tuple rfl) pa_nil)))))
          (pw_or1 (pt_cmpR op_ne (pv 2) (pe_call Gk3 hr1 (by rfl) mk3 kk3 bk3 .nil pass0 (pa_cons (pe_ix ix_list (pe_fld (pv 0) rfl) (pv 1) (fun _ _ => rfl)) pa_nil)) (nomark _)))))
        (pss_one (ps_notValid T rfl (takes_of rfl rfl rfl rfl) (by rfl))) pss_nil)
      (pss_one (ps_expr (pe_meth (pv 0) T.cl mk2 Gk2 hr2 bk2 .nil (passX (E := E) (takes_of rfl rfl rfl rfl) (fun _ _ _ _ z => z)) (pa_cons (pv 1) (pa_cons (pv 2) (pa_cons (pv 3) pa_nil))))))), ?_⟩
    refine ⟨_, rfl, p, dx, _, rfl, hob, ff_no (by decide +kernel), _, rfl, _, rfl, p, _, b, g, rfl, FA.ckP, fun ⟨hb, hg⟩ => ?_, fun hn => k1 fun z => hn ⟨z.1, z.2.1⟩⟩
    obtain ⟨j, rfl⟩ : ∃ j : Nat, b = (j : Int) := ⟨b.toNat, by omega⟩
    have hj : j < ps.length := by omega
    have hvs : ps[j]? = some ps[j] := List.getElem?_eq_getElem hj
    obtain ⟨a, ha, hrow⟩ := FA.gr.at hvs
    refine ⟨_, rfl, rv, _, tv, _, isT, rfl, .ty "tuple", ty, kit, isT, rfl, ?_⟩
    cases isT with
    | false => exact iteT (iteT (k1 fun z => by cases z.2.2.1))
    | true =>
      refine iteF ?_
      refine ⟨_, rfl, _, rfl, p, C, dx, _, _, rfl, hob, T.cl, T.n3, ff_contents, _, rfl, c, _, _, _, rfl, rfl, SqL.of FA.gr.ls, atI_nat (get_map ha), a, _, rfl, hrow, FA.pg _ (List.mem_of_getElem? hvs), rfl, _, rfl, ?_⟩
      by_cases cg : g = (ps[j].length : Int)
      · subst cg
        rw [decide_eq_true rfl]
        refine iteF ?_
        refine ⟨_, rfl, p, dx, _, rfl, hob, ff_no (by decide +kernel), _, rfl, _, rfl, _, rfl, p, w, c, as, ws, ps, pw, rm, it, j, _, rv, rfl, FA, hj, hrm, k2 j _ rfl hvs rfl (by omega) rfl⟩
      · rw [decide_eq_false (by intro z; cases z; exact cg rfl)]
        refine iteT (k1 fun ⟨_, _, _, j', vs', e1, e2, e3⟩ => cg ?_)
        have : j' = j := by omega
        subst this
        rw [hvs] at e2; cases e2; exact e3
theorem scImage : FnScope ["self", "block"] ["self"] (defScope (cF 7)) := ⟨rfl, rfl, rfl, by decide +kernel, rfl, by decide +kernel, by decide +kernel⟩
theorem ok_image (F : Fun K "image" "Flash.image" (cF 7) f fd) (T : FT K mg C CN CP CS fW fB) : FnOk P wd K mg base CX0 1 f fd ["self"] (spImage C) := by
  refine F.ok scImage (fun vs H Q E h => ?_) (fun cdv A outer s H vs Q E hr h => ?_)
  · obtain ⟨p, w, c, as, ws, ps, pw, rm, it, rfl, _⟩ := h
    rfl
  · obtain ⟨p, w, c, as, ws, ps, pw, rm, it, rfl, FA, hsz, k⟩ := h
    obtain ⟨dx, hob⟩ := id FA.ob
    refine ⟨_, pss_one (ps_ret (pe_lc (own := [("block", 1)]) (g := gName 1) (tt := tYes) (te := tTup (tCons (tOp (rIxL K) (tFld K (tVar 0) "_wears") (tVar 1)) (tCons (tCB (rListOf K) (tCons (tOp (rIxL K) (tFld K (tVar 0) "_contents") (tVar 1)) tNil)) tNil))) (by rfl) scImage.nd (pi_range1 (by rfl) T.bt.range (pa_cons (pe_fld (pv 0) rfl) pa_nil)) (blkOk_by (own := [("block", 1)]) (N := ["self", "block"]) (sc := defScope (cF 7)) (by decide +kernel))
      (fun _ _ _ _ _ => pg_name (i := 1) scImage.nd rfl (Or.inl rfl)) (fun _ _ _ _ _ => pts_nil)
      (fun _ _ _ _ _ => by exact (pe_tup (pa_cons (pe_ix ix_list (pe_fld (pv 0) rfl) (pv 1) (fun _ _ => rfl)) (pa_cons (pe_callTy call_listOf (by rfl) T.lst boot_list (pa_cons (pe_ix ix_list (pe_fld (pv 0) rfl) (pv 1) (fun _ _ => rfl)) pa_nil)) pa_nil)))))), ?_⟩
    refine ⟨_, rfl, p, C, dx, _, _, rfl, hob, T.cl, T.n1, ff_blocks, _, rfl, by omega, by omega, fun D hD => ?_⟩
    refine lc_range (lo := 0) (n := ((ps.length : Int)).toNat) (fun i H' => i ≤ ps.length ∧ Same H H' ∧ ∃ tr : List Addr, H' D = some (.lst (tr.map V.ref)) ∧ tr.length = i ∧
      ∀ (i : Nat) (t : Addr), tr[i]? = some t → ∃ (wv : Int) (c : Addr) (vs : List V), ws[i]? = some wv ∧ ps[i]? = some vs ∧ H' t = some (.tup [.int wv, .ref c]) ∧ H' c = some (.lst (row vs)) ∧ H t = Option.none ∧ H c = Option.none ∧ c ≠ D) ⟨Nat.zero_le _, same_new hD, [], upd_same, rfl, fun i t h => by simp at h⟩ ?_ ?_
    · rintro i H' hi ⟨_, sm, tr, hDl, hl, ht⟩
      have hip : i < ps.length := by omega
      have hiw : i < ws.length := by rw [FA.lw]; exact hip
      have hvs : ps[i]? = some ps[i] := List.getElem?_eq_getElem hip
      have hwv : ws[i]? = some ws[i] := List.getElem?_eq_getElem hiw
      obtain ⟨a, ha, hrow⟩ := FA.gr.at hvs
      refine ⟨rfl, ?_⟩
      refine yesIte ?_
      have e0 : (0 : Int) + (i : Int) = (i : Int) := by omega
      refine ⟨_, rfl, p, C, dx, _, _, rfl, sm _ _ hob, T.cl, T.n2, ff_wears, _, rfl, w, _, _, _, rfl, rfl, SqL.of (sm _ _ FA.wl), (by rw [e0]; exact atI_nat (get_map hwv)), ?_⟩
      refine ⟨_, rfl, p, C, dx, _, _, rfl, sm _ _ hob, T.cl, T.n3, ff_contents, _, rfl, c, _, _, _, rfl, rfl, SqL.of (sm _ _ FA.gr.ls), (by rw [e0]; exact atI_nat (get_map ha)), a, _, rfl, .inl (SqL.of (sm _ _ hrow)), fun l hl' => ?_⟩
      refine ⟨by show 2 ≤ sizeLine; decide, fun t ht' => ?_⟩
      have nDl : D ≠ l := ne_of_none hDl hl'
      have s2 := same_new (o := .lst (row ps[i])) hl'
      have s3 := same_new (o := .tup [.int ws[i], .ref l]) ht'
      have nDt : D ≠ t := ne_of_none (s2 _ _ hDl) ht'
      have hlH : H l = Option.none := sm.free hl'
      have htH : H t = Option.none := sm.free (s2.free ht')
      have nlt : l ≠ t := ne_of_none upd_same ht'
      refine ⟨_, s3 _ _ (s2 _ _ hDl), ?_, ?_, ?_, tr ++ [t], ?_, ?_, ?_⟩
      · rw [List.length_map, hl]; exact small1000 (by omega)
      · omega
      · intro x o hx
        rw [upd_ne (ne_of_none hx hD)]
        exact s3 _ _ (s2 _ _ (sm _ _ hx))
      · rw [upd_same, List.map_append]; rfl
      · rw [List.length_append, hl]; rfl
      · intro m u hu
        by_cases hm : m < tr.length
        · rw [List.getElem?_append_left hm] at hu
          obtain ⟨wv, c', vs, f1, f2, f3, f4, f5, f6, f7⟩ := ht m u hu
          refine ⟨wv, c', vs, f1, f2, ?_, ?_, f5, f6, f7⟩
          · rw [upd_ne (ne_of f3 hDl (by intro z; cases z))]; exact s3 _ _ (s2 _ _ f3)
          · rw [upd_ne f7]; exact s3 _ _ (s2 _ _ f4)
        · have hm' : m = tr.length := by
            have := (List.getElem?_eq_some_iff.mp hu).1
            rw [List.length_append] at this
            simp only [List.length_cons, List.length_nil] at this
            omega
          subst hm'
          rw [List.getElem?_append_right (Nat.le_refl _), Nat.sub_self] at hu
          have : t = u := by simpa using hu
          subst this
          rw [hl]
          refine ⟨_, l, _, hwv, hvs, ?_, ?_, htH, hlH, nDl.symm⟩
          · rw [upd_ne nDt.symm, upd_same]
          · rw [upd_ne nDl.symm, upd_ne nlt, upd_same]
    · rintro H' ⟨_, sm, tr, hDl, hl, ht⟩
      refine k D H' sm ⟨hD, tr, hDl, by omega, fun i t h => ?_⟩
      obtain ⟨wv, c', vs, f1, f2, f3, f4, f5, f6, f7⟩ := ht i t h
      exact ⟨wv, c', vs, f1, f2, f3, f4, f5, f6⟩
end
end Sg

set_option Elab.async false
set_option linter.all false
set_option maxRecDepth 100000
set_option maxHeartbeats 4000000
namespace Sg
open PySem PySem.Spec PyProof.Rows L2
/-! ### [[None] * 8 for _ in range(n)] -/
abbrev tRow8 : TE := tOp rRep (tLst (tCons (tC .non) tNil)) (tC (.int 8))
theorem row_nil : (List.replicate (8 : Int).toNat [V.non]).flatten = row [] := by decide
theorem rep8 {D : Addr} {n : Nat} {as : List Addr} {H H' : Hp} {q : Addr} (g : Grid H D as (List.replicate n [])) (h0 : H' D = some (.lst ((as ++ [q]).map V.ref))) (h1 : H' q = some (.lst (row []))) (hq : H q = Option.none) (h2 : ∀ a ∈ as, ∀ o, H a = some o → H' a = some o) : Grid H' D (as ++ [q]) (List.replicate (n + 1) []) := by
  have hqn : q ∉ as := fun h => by
    obtain ⟨j, hj⟩ := List.getElem?_of_mem h
    have hjl : j < (List.replicate n ([] : List V)).length := by rw [← g.len]; exact (List.getElem?_eq_some_iff.mp hj).1
    have := g.rows j q _ hj (List.getElem?_eq_getElem hjl)
    rw [hq] at this; cases this
  refine ⟨h0, ?_, ?_, ?_, fun i a vs ha hvs => ?_⟩
  · have := g.len
    simp only [List.length_append, List.length_replicate, List.length_cons, List.length_nil] at this ⊢
    omega
  · rw [List.nodup_append]
    exact ⟨g.nd, by simp, fun a ha b hb => by rw [List.mem_singleton.mp hb]; exact fun e => hqn (e ▸ ha)⟩
  · intro hm
    rcases List.mem_append.mp hm with h | h
    · exact g.nc h
    · exact ne_of_none g.ls hq (List.mem_singleton.mp h)
  · have ev : vs = [] := by
      have := List.mem_of_getElem? hvs
      rw [List.mem_replicate] at this; exact this.2
    subst ev
    by_cases hi : i < as.length
    · rw [List.getElem?_append_left hi] at ha
      have hil : i < (List.replicate n ([] : List V)).length := by rw [← g.len]; exact hi
      have e := g.rows i a [] ha (by rw [List.getElem?_eq_getElem hil, List.getElem_replicate])
      exact h2 a (List.mem_of_getElem? ha) _ e
    · have hm' := (List.getElem?_eq_some_iff.mp ha).1
      rw [List.length_append] at hm'
      simp only [List.length_cons, List.length_nil] at hm'
      have : i = as.length := by omega
      subst this
      rw [List.getElem?_append_right (Nat.le_refl _), Nat.sub_self] at ha
      have : q = a := by simpa using ha
      rw [← this]; exact h1
theorem rows_lc {σ : L2.St} {H1 : Hp} {D : Addr} {vs : List Nat} {j n : Nat} {Qd : Hp → Prop} (hD : H1 D = Option.none) (hw : ∀ x, wipe ((wipe σ vs).set j (some x)) vs = wipe σ vs) (hn : n ≤ 1000)
    (hd : ∀ H' as, Same H1 H' → Grid H' D as (List.replicate n []) → (∀ a ∈ as, H1 a = Option.none) → Qd H') :
    ∃ W : Nat → Nat → Hp → Prop, (∃ m, W 0 m (upd H1 D (.lst []))) ∧ ∀ i m H, W i m H →
      ((Itr 0 n).stop i H ∧ Qd H) ∨ ((Itr 0 n).go i H ∧ ∃ Nx : Hp → Prop, (∀ H', Nx H' → ∃ m', m' < m ∧ W (i + 1) m' H') ∧ ∀ x H', (Itr 0 n).yld i H x H' → gName j x (wipe σ vs) H' fun σ2 H2 => wipe σ2 vs = wipe σ vs ∧ tYes σ2 H2 fun b H3 =>
        if b = true then tRow8 σ2 H3 fun y H4 => ∃ acc, H4 D = some (.lst acc) ∧ acc.length < sizeLine ∧ Nx (upd H4 D (.lst (acc ++ [y]))) else Nx H3) := by
  refine lc_range (lo := 0) (n := n) (fun i H' => i ≤ n ∧ Same H1 H' ∧ ∃ as : List Addr, Grid H' D as (List.replicate i []) ∧ ∀ a ∈ as, H1 a = Option.none)
    ⟨Nat.zero_le _, same_new hD, [], ⟨upd_same, rfl, List.nodup_nil, by simp, fun i a vs h => by simp at h⟩, fun a h => by cases h⟩ ?_ ?_
  · rintro i H' hi ⟨_, sm, as, g, ha⟩
    refine ⟨hw _, yesIte ?_⟩
    refine ⟨by show 1 ≤ sizeLine; decide, fun l hl => ?_⟩
    refine ⟨l, 8, [.non], rfl, rfl, upd_same, by decide, by decide, by show 8 ≤ sizeLine; decide, fun q hq => ?_⟩
    rw [row_nil]
    have hqH : H' q = Option.none := (same_new hl).free hq
    have s2 : Same H' (upd (upd H' l (.lst [V.non])) q (.lst (row []))) := (same_new hl).trans (same_new hq)
    have nDq : D ≠ q := ne_of_none g.ls hqH
    refine ⟨_, s2 _ _ g.ls, ?_, ?_, ?_, as ++ [q], ?_, ?_⟩
    · rw [List.length_map, g.len, List.length_replicate]; exact small1000 (by omega)
    · omega
    · intro x o hx
      rw [upd_ne (ne_of_none hx hD)]
      exact s2 _ _ (sm _ _ hx)
    · refine rep8 g ?_ ?_ hqH ?_
      · rw [upd_same, List.map_append]; rfl
      · rw [upd_ne nDq.symm, upd_same]
      · intro a h o ho
        rw [upd_ne (fun e : a = D => g.nc (by rw [← e]; exact h))]
        exact s2 _ _ ho
    · intro a h
      rcases List.mem_append.mp h with h | h
      · exact ha a h
      · rw [List.mem_singleton.mp h]; exact sm.free hqH
  · rintro H' ⟨_, sm, as, g, ha⟩
    exact hd H' as sm g ha
section
variable {P : Program} {wd : World} {K : PySem.W.Frag} {mg : Str → Option Value} {base : Heap} {f C CN CP CS fW fB : Addr} {fd fdB fdW : FuncData}
theorem pgs_nil {H : Hp} {n : Nat} : Pgs H (List.replicate n []) := fun vs h => by
  rw [List.mem_replicate] at h
  rw [h.2]
  exact ⟨by simp, fun v h => by cases h⟩
theorem ints_rep {m : Nat} : (List.replicate m [V.int 0]).flatten = (List.replicate m (0 : Int)).map V.int := by
  induction m with
  | zero => rfl
  | succ m ih => rw [List.replicate_succ, List.flatten_cons, ih, List.replicate_succ]; rfl
theorem ff_new {n : Int} {w c : Addr} {pw : Bool} {rm it : V} : putF "_interrupted" it (putF "_remaining" rm (putF "_powered" (V.bl pw) (putF "_contents" (V.ref c) (putF "_wears" (V.ref w) (putF "blocks" (V.int n) []))))) = ff n w c pw rm it := by
  have a1 : putF "blocks" (V.int n) [] = [(("blocks" : Str), V.int n)] := rfl
  have a2 : putF "_wears" (V.ref w) [(("blocks" : Str), V.int n)] = [(("blocks" : Str), V.int n), (("_wears" : Str), V.ref w)] := (put_past (by decide +kernel)).trans rfl
  have a3 : putF "_contents" (V.ref c) [(("blocks" : Str), V.int n), (("_wears" : Str), V.ref w)] = [(("blocks" : Str), V.int n), (("_wears" : Str), V.ref w), (("_contents" : Str), V.ref c)] :=
    (put_past (by decide +kernel)).trans (congrArg _ ((put_past (by decide +kernel)).trans rfl))
  have a4 : putF "_powered" (V.bl pw) [(("blocks" : Str), V.int n), (("_wears" : Str), V.ref w), (("_contents" : Str), V.ref c)] = [(("blocks" : Str), V.int n), (("_wears" : Str), V.ref w), (("_contents" : Str), V.ref c), (("_powered" : Str), V.bl pw)] :=
    (put_past (by decide +kernel)).trans (congrArg _ ((put_past (by decide +kernel)).trans (congrArg _ ((put_past (by decide +kernel)).trans rfl))))
  have a5 : putF "_remaining" rm [(("blocks" : Str), V.int n), (("_wears" : Str), V.ref w), (("_contents" : Str), V.ref c), (("_powered" : Str), V.bl pw)] = [(("blocks" : Str), V.int n), (("_wears" : Str), V.ref w), (("_contents" : Str), V.ref c), (("_powered" : Str), V.bl pw), (("_remaining" : Str), rm)] :=
    (put_past (by decide +kernel)).trans (congrArg _ ((put_past (by decide +kernel)).trans (congrArg _ ((put_past (by decide +kernel)).trans (congrArg _ ((put_past (by decide +kernel)).trans rfl))))))
  have a6 : putF "_interrupted" it [(("blocks" : Str), V.int n), (("_wears" : Str), V.ref w), (("_contents" : Str), V.ref c), (("_powered" : Str), V.bl pw), (("_remaining" : Str), rm)] = ff n w c pw rm it :=
    (put_past (by decide +kernel)).trans (congrArg _ ((put_past (by decide +kernel)).trans (congrArg _ ((put_past (by decide +kernel)).trans (congrArg _ ((put_past (by decide +kernel)).trans (congrArg _ ((put_past (by decide +kernel)).trans rfl))))))))
  rw [a1, a2, a3, a4, a5, a6]
theorem scInit : FnScope ["self", "blocks", "_"] ["self", "blocks"] (defScope (cF 0)) := ⟨rfl, rfl, rfl, by decide +kernel, rfl, by decide +kernel, by decide +kernel⟩
theorem ok_init (F : Fun K "__init__" "Flash.__init__" (cF 0) f fd) (T : FT K mg C CN CP CS fW fB) (G : GBet P wd K mg base fB fdB) : FnOk P wd K mg base (L2.CX P wd) 3 f fd ["self", "blocks"] (spInit C CN) := by
  obtain ⟨GB, bB, kB⟩ := G
  obtain ⟨tk1, hpag⟩ := T.pag
  obtain ⟨tk2, hmn⟩ := T.mnb
  obtain ⟨tk3, hmx⟩ := T.mxb
  refine F.okX scInit (fun vs H Q E h => ?_) (fun cdv A outer s H vs Q E hr h => ?_)
  · obtain ⟨p, dx, n, rfl, _⟩ := h
    rfl
  · obtain ⟨p, dx, n, rfl, hob, k1, k2⟩ := h
    refine ⟨_, pss_cons (ps_if (pt_not (pt_val (pe_call GB hr (by rfl) T.gB kB bB .nil pass0 (pa_cons (pv 1) (pa_cons (pe_glob (v := .int 8) (by rfl) hmn ⟨_, rfl⟩) (pa_cons (pe_glob (v := .int 24) (by rfl) hmx ⟨_, rfl⟩) pa_nil)))))) (pss_one (ps_notValid T rfl (takes_of rfl rfl rfl rfl) (by rfl))) pss_nil)
      (pss_cons (ps_fld (pv 0) (pv 1) rfl)
      (pss_cons (ps_fld (pv 0) (pe_op op_rep (pe_lst (pa_cons pe_int pa_nil)) (pv 1)) rfl)
      (pss_cons (ps_fld (pv 0) (pe_lc (own := [("_", 2)]) (g := gName 2) (tt := tYes) (te := tRow8) (by rfl) scInit.nd (pi_range1 (by rfl) T.bt.range (pa_cons (pv 1) pa_nil)) (blkOk_by (own := [("_", 2)]) (N := ["self", "blocks", "_"]) (sc := defScope (cF 0)) (by decide +kernel))
          (fun _ _ _ _ _ => pg_name (i := 2) scInit.nd rfl (Or.inl rfl)) (fun _ _ _ _ _ => pts_nil) (fun _ _ _ _ _ => by exact (pe_op op_rep (pe_lst (pa_cons pe_non pa_nil)) (pe_glob (v := .int 8) (by rfl) hpag ⟨_, rfl⟩)))) rfl)
      (pss_cons (ps_fld (pv 0) pe_bl rfl) (pss_cons (ps_fld (pv 0) pe_non rfl) (pss_one (ps_fld (pv 0) pe_non rfl))))))), ?_⟩
    refine ⟨_, rfl, _, _, _, rfl, .inl ⟨n, rfl, _, rfl, ?_⟩⟩
    by_cases c : 8 ≤ n ∧ n ≤ 24
    · rw [decide_eq_true c.1, decide_eq_true c.2]
      refine iteF ?_
      obtain ⟨m, rfl⟩ : ∃ m : Nat, n = (m : Int) := ⟨n.toNat, by omega⟩
      refine ⟨_, rfl, _, rfl, p, C, dx, [], rfl, hob, T.cl, T.n1, by show 0 < 1000; decide, ?_⟩
      generalize hH1 : upd H p (.ins C dx (putF "blocks" (.int (m : Int)) [])) = H1
      have hob1 : H1 p = some (.ins C dx (putF "blocks" (.int (m : Int)) [])) := by rw [← hH1, upd_same]
      refine ⟨by show 1 ≤ sizeLine; decide, fun l hl => ?_⟩
      refine ⟨_, rfl, l, (m : Int), [.int 0], rfl, rfl, upd_same, by omega, by omega, ?_, fun w hw => ?_⟩
      · exact Nat.le_of_lt (small1000 (by simp only [List.length_cons, List.length_nil, Int.toNat_natCast]; omega))
      have npl : p ≠ l := ne_of_none hob1 hl
      have hwH : H1 w = Option.none := (same_new hl).free hw
      have npw : p ≠ w := ne_of_none hob1 hwH
      refine ⟨_, rfl, p, C, dx, _, rfl, (by rw [upd_ne npw, upd_ne npl]; exact hob1), T.cl, T.n2, by show 1 < 1000; decide, ?_⟩
      generalize hH2 : upd (upd (upd H1 l (.lst [V.int 0])) w (.lst (List.replicate (m : Int).toNat [V.int 0]).flatten)) p (.ins C dx (putF "_wears" (.ref w) (putF "blocks" (.int (m : Int)) []))) = H2
      have hob2 : H2 p = some (.ins C dx (putF "_wears" (.ref w) (putF "blocks" (.int (m : Int)) []))) := by rw [← hH2, upd_same]
      have hw2 : H2 w = some (.lst ((List.replicate m (0 : Int)).map V.int)) := by
        rw [← hH2, upd_ne npw.symm, upd_same, Int.toNat_natCast, ints_rep]
      refine ⟨_, rfl, _, rfl, by omega, by omega, fun D hD => ?_⟩
      rw [Int.toNat_natCast]
      refine rows_lc (j := 2) hD (fun _ => rfl) (by omega) fun H3 as sm g hnew => ?_
      have hob3 := sm _ _ hob2
      refine ⟨_, rfl, p, C, dx, _, rfl, hob3, T.cl, T.n3, by show 2 < 1000; decide, _, rfl, p, C, dx, _, rfl, upd_same, T.cl, T.n4, by show 3 < 1000; decide, _, rfl, p, C, dx, _, rfl, upd_same, T.cl, T.n5, by show 4 < 1000; decide, _, rfl, p, C, dx, _, rfl, upd_same, T.cl, T.n6, by show 5 < 1000; decide, ?_⟩
      rw [upd_upd, upd_upd, upd_upd]
      rw [ff_new]
      have s12 : Same H1 (upd (upd H1 l (.lst [V.int 0])) w (.lst (List.replicate (m : Int).toNat [V.int 0]).flatten)) := (same_new hl).trans (same_new hw)
      have hfree : ∀ x, H2 x = Option.none → H x = Option.none := fun x hx => by
        cases e : H x with
        | none => rfl
        | some o =>
          exfalso
          by_cases ed : x = p
          · rw [ed, hob2] at hx; cases hx
          · have h1 : H1 x = some o := by rw [← hH1, upd_ne ed]; exact e
            rw [← hH2, upd_ne ed, s12 _ _ h1] at hx; cases hx
      have hDH : H D = Option.none := hfree D hD
      have hwHH : H w = Option.none := by rw [← hH1, upd_ne npw.symm] at hwH; exact hwH
      have keep : ∀ x o, H x = some o → x ≠ p → (upd H3 p (.ins C dx (ff (m : Int) w D true .non .non))) x = some o := fun x o hx hp => by
        rw [upd_ne hp]
        refine sm _ _ ?_
        rw [← hH2, upd_ne hp]
        refine s12 _ _ ?_
        rw [← hH1, upd_ne hp]; exact hx
      have npD : p ≠ D := ne_of_none hob2 hD
      refine k1 m rfl (by omega) (by omega) w D as _ ⟨⟨dx, by rw [List.length_replicate]; exact upd_same⟩, ?_, ?_, by rw [List.length_replicate, List.length_replicate], pgs_nil, ?_, ?_⟩ hwHH hDH ?_ ?_ ?_
      · rw [upd_ne npw.symm]; exact sm _ _ hw2
      · refine g.keep (fun o h => ?_) (fun a ha o h => ?_)
        · rw [upd_ne npD.symm]; exact h
        · rw [upd_ne (ne_of_none hob2 (hnew a ha)).symm]; exact h
      · exact ne_of_none hw2 hD
      · intro h
        have := hnew w h
        rw [hw2] at this; cases this
      · intro a ha; exact hfree a (hnew a ha)
      · intro x o hx hp; exact keep x o hx (by simpa using hp)
      · intro t xs ht
        exact keep t _ ht (ne_of ht hob (by intro z; cases z))
    · have e : (decide (8 ≤ n) && decide (n ≤ 24)) = false := by
        rw [Bool.and_eq_false_iff, decide_eq_false_iff_not, decide_eq_false_iff_not]; omega
      rw [e]
      exact iteT (k2 c)
end
end Sg

set_option Elab.async false
set_option linter.all false
set_option maxRecDepth 100000
set_option maxHeartbeats 4000000
namespace Sg
open PySem PySem.Spec PyProof.Rows L2
def spFail (K : PySem.W.Frag) (C CN : Addr) : Sp := fun vs H Q E => ∃ p w c as ws ps pw rm it cv, vs = [.ref p, cv] ∧ FlashAt C H p w c as ws ps pw rm it ∧
  (((cv = .non ∨ ∃ n : Int, cv = .int n ∧ 0 ≤ n ∧ n ≤ 100000) ∧ ∀ H', FlashAt C H' p w c as ws ps pw cv it → Off [p] H H' → Tups H H' → Q .non H') ∨
   (((∃ n : Int, cv = .int n ∧ ¬ (0 ≤ n ∧ n ≤ 100000)) ∨ (cv ≠ .non ∧ ∃ t b1 b2, TyX K H cv t ∧ PySem.W.kitOne K t (.type "int") = some b1 ∧ PySem.W.kitOne K t (.type "bool") = some b2 ∧ (b1 && !b2) = false)) ∧ E (.ref CN) Option.none H))
/-- what stands behind a cut: the content of an operation that was done or torn -/
def cutV' (ch : Int) (cv : V) : V := if ch = 1 then cv else .str "torn"
def spCut (C CN : Addr) : Sp := fun vs H Q E => ∃ p w c as ws ps pw rm it ch, vs = [.ref p, .int ch] ∧ FlashAt C H p w c as ws ps pw rm it ∧
  ((¬ (0 ≤ ch ∧ ch ≤ 2) ∧ E (.ref CN) Option.none H) ∨
   (0 ≤ ch ∧ ch ≤ 2 ∧ (it = .non ∨ ∃ t o, it = .ref t ∧ H t = some o) ∧ (it = .non ∨ ch = 0) ∧ ∀ H', FlashAt C H' p w c as ws ps true .non .non → Off [p] H H' → Tups H H' → Q .non H') ∨
   (0 < ch ∧ ch ≤ 2 ∧ ∃ (t : Addr) (b : Nat) (pg cv : V), it = .ref t ∧ H t = some (.tup [.int (b : Int), pg, cv]) ∧ b < ps.length ∧ Carried C H p w c as ws ps true .non .non b pg (cutV' ch cv) (Q .non)))
theorem cut_end {C : Addr} {H : Hp} {p w c dx : Addr} {as : List Addr} {ws : List Int} {ps : List (List V)} {pw : Bool} {rm it : V} (F : FlashAt C H p w c as ws ps pw rm it) (hob : H p = some (.ins C dx (ff (ps.length : Int) w c pw rm it))) :
    FlashAt C (upd (upd (upd H p (.ins C dx (ff (ps.length : Int) w c true rm it))) p (.ins C dx (ff (ps.length : Int) w c true .non it))) p (.ins C dx (ff (ps.length : Int) w c true .non .non))) p w c as ws ps true .non .non ∧
    Off [p] H (upd (upd (upd H p (.ins C dx (ff (ps.length : Int) w c true rm it))) p (.ins C dx (ff (ps.length : Int) w c true .non it))) p (.ins C dx (ff (ps.length : Int) w c true .non .non))) ∧
    Tups H (upd (upd (upd H p (.ins C dx (ff (ps.length : Int) w c true rm it))) p (.ins C dx (ff (ps.length : Int) w c true .non it))) p (.ins C dx (ff (ps.length : Int) w c true .non .non))) := by
  rw [upd_upd, upd_upd]
  exact F.fields (pw' := true) (rm' := .non) (it' := .non) hob rfl
section
variable {P : Program} {wd : World} {K : PySem.W.Frag} {mg : Str → Option Value} {base : Heap} {f C CN CP CS fW fB fk fk2 fk3 fk4 : Addr} {fd fdB fdW fdk fdk2 fdk3 fdk4 : FuncData}
theorem scFail : FnScope ["self", "count"] ["self", "count"] (defScope (cF 5)) := ⟨rfl, rfl, rfl, by decide +kernel, rfl, by decide +kernel, by decide +kernel⟩
theorem ok_fail (F : Fun K "fail_after" "Flash.fail_after" (cF 5) f fd) (T : FT K mg C CN CP CS fW fB) (G : GBet P wd K mg base fB fdB) (gM : ∃ t, mg "MOST_OPERATIONS" = some (.int 100000 t)) : FnOk P wd K mg base (L2.CX P wd) 3 f fd ["self", "count"] (spFail K C CN) := by
  obtain ⟨GB, bB, kB⟩ := G
  obtain ⟨tk, hmost⟩ := gM
  refine F.okX scFail (fun vs H Q E h => ?_) (fun cdv A outer s H vs Q E hr h => ?_)
  · obtain ⟨p, w, c, as, ws, ps, pw, rm, it, cv, rfl, _⟩ := h
    rfl
  · obtain ⟨p, w, c, as, ws, ps, pw, rm, it, cv, rfl, FA, h⟩ := h
    obtain ⟨dx, hob⟩ := id FA.ob
    refine ⟨_, pss_cons (ps_if (PW.pt (pw_and (pt_cmpR op_notN (pv 1) pe_non (nomark _)) (pw_and1 (pt_not (pt_val (pe_call GB hr (by rfl) T.gB kB bB .nil pass0 (pa_cons (pv 1) (pa_cons pe_int (pa_cons (pe_glob (v := .int 100000) (by rfl) hmost ⟨_, rfl⟩) pa_nil)))))))))
        (pss_one (ps_notValid T rfl (takes_of rfl rfl rfl rfl) (by rfl))) pss_nil)
      (pss_one (ps_fld (pv 0) (pv 1) rfl)), ?_⟩
    have fin : (∀ H', FlashAt C H' p w c as ws ps pw cv it → Off [p] H H' → Tups H H' → Q .non H') → Q .non (upd H p (.ins C dx (ff (ps.length : Int) w c pw cv it))) := fun k => by
      obtain ⟨A1, A2, A3⟩ := FA.fields (o := .ins C dx (ff (ps.length : Int) w c pw cv it)) (pw' := pw) (rm' := cv) (it' := it) hob rfl
      exact k _ A1 A2 A3
    refine ⟨_, rfl, rfl, _, rfl, ?_⟩
    rcases h with ⟨rfl | ⟨n, rfl, h0, h1⟩, k⟩ | ⟨⟨n, rfl, hn⟩ | ⟨hnn, t, b1, b2, ty, h1, h2, hb⟩, k⟩
    · rw [decide_eq_true rfl]
      refine iteF (iteF ⟨_, rfl, _, rfl, p, C, dx, _, rfl, hob, T.cl, T.n5, ff_len, ?_⟩)
      rw [ff_putR]
      exact fin k
    · rw [decide_eq_false (by intro z; cases z)]
      refine iteT ⟨_, rfl, .int n, 0, 100000, rfl, .inl ⟨n, rfl, _, rfl, ?_⟩⟩
      rw [decide_eq_true h0, decide_eq_true h1]
      refine iteF ⟨_, rfl, _, rfl, p, C, dx, _, rfl, hob, T.cl, T.n5, ff_len, ?_⟩
      rw [ff_putR]
      exact fin k
    · rw [decide_eq_false (by intro z; cases z)]
      refine iteT ⟨_, rfl, .int n, 0, 100000, rfl, .inl ⟨n, rfl, _, rfl, ?_⟩⟩
      have e : (decide ((0 : Int) ≤ n) && decide (n ≤ 100000)) = false := by
        rw [Bool.and_eq_false_iff, decide_eq_false_iff_not, decide_eq_false_iff_not]; omega
      rw [e]
      exact iteT k
    · rw [decide_eq_false hnn]
      exact iteT ⟨_, rfl, cv, 0, 100000, rfl, .inr ⟨t, b1, b2, ty, h1, h2, hb, _, rfl, iteT k⟩⟩
theorem scCut : FnScope ["self", "choice", "block", "page", "content"] ["self", "choice"] (defScope (cF 6)) := ⟨rfl, rfl, rfl, by decide +kernel, rfl, by decide +kernel, by decide +kernel⟩
theorem ok_cut (F : Fun K "cut" "Flash.cut" (cF 6) f fd) (T : FT K mg C CN CP CS fW fB) (G : GBet P wd K mg base fB fdB) (gT : ∃ t, mg "TORN" = some (.str "torn" t))
    (Gk2 : FnOk P wd K mg base CX0 1 fk2 fdk2 ["self", "block", "page", "content"] (spCarry C)) (bk2 : Binds K fdk2 ["self", "block", "page", "content"] []) (mk2 : Meth K C "_carry_out" fk2) : FnOk P wd K mg base (L2.CX P wd) 3 f fd ["self", "choice"] (spCut C CN) := by
  obtain ⟨GB, bB, kB⟩ := G
  obtain ⟨tk, htorn⟩ := gT
  refine F.okX scCut (fun vs H Q E h => ?_) (fun cdv A outer s H vs Q E hr h => ?_)
  · obtain ⟨p, w, c, as, ws, ps, pw, rm, it, ch, rfl, _⟩ := h
    rfl
  · obtain ⟨p, w, c, as, ws, ps, pw, rm, it, ch, rfl, FA, h⟩ := h
    obtain ⟨dx, hob⟩ := id FA.ob
    have hr1 : Room 1 _ := hr.mono (by decide)
    refine ⟨_, pss_cons (ps_if (pt_not (pt_val (pe_call GB hr (by rfl) T.gB kB bB .nil pass0 (pa_cons (pv 1) (pa_cons pe_int (pa_cons pe_int pa_nil))))))
        (pss_one (ps_notValid T rfl (takes_of rfl rfl rfl rfl) (by rfl))) pss_nil)
      (pss_cons (ps_if (PW.pt (pw_and (pt_cmpR op_notN (pe_fld (pv 0) rfl) pe_non (nomark _)) (pw_and1 (pt_cmpR op_gt (pv 1) pe_int (nomark _)))))
        (pss_cons (ps_asg (pe_fld (pv 0) rfl) (pg_tup (by rfl) (pgs_cons (pg_name (i := 2) scCut.nd rfl (Or.inl rfl)) (pgs_cons (pg_name (i := 3) scCut.nd rfl (Or.inl rfl)) (pgs_cons (pg_name (i := 4) scCut.nd rfl (Or.inl rfl)) L2.pgs_nil)))))
        (pss_one (ps_expr (pe_meth (pv 0) T.cl mk2 Gk2 hr1 bk2 .nil pass0 (pa_cons (pv 2) (pa_cons (pv 3) (pa_cons (pe_ifExp (pt_cmpR op_eq (pv 1) pe_int (nomark _)) (pv 4) (pe_glob (v := .str "torn") (by rfl) htorn ⟨_, rfl⟩)) pa_nil))))))) pss_nil)
      (pss_cons (ps_fld (pv 0) pe_bl rfl) (pss_cons (ps_fld (pv 0) pe_non rfl) (pss_one (ps_fld (pv 0) pe_non rfl))))), ?_⟩
    refine ⟨_, rfl, .int ch, 0, 2, rfl, .inl ⟨ch, rfl, _, rfl, ?_⟩⟩
    by_cases hc : 0 ≤ ch ∧ ch ≤ 2
    · rw [decide_eq_true hc.1, decide_eq_true hc.2]
      refine iteF ?_
      refine ⟨_, rfl, p, C, dx, _, _, rfl, hob, T.cl, T.n6, ff_interrupted, ?_⟩
      rcases h with ⟨hn, _⟩ | ⟨_, _, hit, hz, k⟩ | ⟨h0, _, t, b, pg, cv, rfl, ht, hb, k⟩
      · exact absurd hc hn
      · have fin : Q .non (upd (upd (upd H p (.ins C dx (ff (ps.length : Int) w c true rm it))) p (.ins C dx (ff (ps.length : Int) w c true .non it))) p (.ins C dx (ff (ps.length : Int) w c true .non .non))) := by
          obtain ⟨A1, A2, A3⟩ := cut_end FA hob
          exact k _ A1 A2 A3
        refine ⟨?_, _, rfl, ?_⟩
        · rcases hit with rfl | ⟨t, o, rfl, _⟩ <;> rfl
        refine ite2 (fun c1 => ?_) (fun c1 => ?_)
        · have hch : ch = 0 := hz.resolve_left fun e => by rw [e] at c1; exact Bool.noConfusion c1
          subst hch
          refine ⟨_, rfl, _, _, rfl, rfl, _, rfl, iteF ?_⟩
          refine ⟨_, rfl, p, C, dx, _, rfl, hob, T.cl, T.n4, ff_len, ?_⟩
          rw [ff_putP]
          refine ⟨_, rfl, p, C, dx, _, rfl, upd_same, T.cl, T.n5, ff_len, ?_⟩
          rw [ff_putR]
          refine ⟨_, rfl, p, C, dx, _, rfl, upd_same, T.cl, T.n6, ff_len, ?_⟩
          rw [ff_putI]
          exact fin
        · refine iteF ?_
          refine ⟨_, rfl, p, C, dx, _, rfl, hob, T.cl, T.n4, ff_len, ?_⟩
          rw [ff_putP]
          refine ⟨_, rfl, p, C, dx, _, rfl, upd_same, T.cl, T.n5, ff_len, ?_⟩
          rw [ff_putR]
          refine ⟨_, rfl, p, C, dx, _, rfl, upd_same, T.cl, T.n6, ff_len, ?_⟩
          rw [ff_putI]
          exact fin
      · refine ⟨rfl, _, rfl, ?_⟩
        rw [decide_eq_false (by intro z; cases z)]
        refine iteT ⟨_, rfl, _, _, rfl, rfl, _, rfl, ?_⟩
        rw [decide_eq_true h0]
        refine iteT ?_
        refine ⟨_, rfl, p, C, dx, _, _, rfl, hob, T.cl, T.n6, ff_interrupted, t, _, rfl, SqT.of ht, rfl, ?_⟩
        refine ⟨_, _, rfl, _, _, rfl, _, _, rfl, rfl, ?_⟩
        have done : ∀ H' (as' : List Addr) (ws' : List Int) (ps' : List (List V)), ps'.length = ps.length → FlashAt C H' p w c as' ws' ps' pw rm (.ref t) → Off (p :: w :: c :: as) H H' → Tups H H' →
            (∀ H2, FlashAt C H2 p w c as' ws' ps' true .non .non → Off (p :: w :: c :: as) H H2 → Tups H H2 → Q .non H2) →
            (sFld K (tVar 0) (tC (.bl true)) "_powered" { nx := sFld K (tVar 0) (tC .non) "_remaining" { nx := sFld K (tVar 0) (tC .non) "_interrupted" { nx := fun _ H' => Q .non H', rt := Q, bk := fun _ _ => False, ct := fun _ _ => False }, rt := Q, bk := fun _ _ => False, ct := fun _ _ => False }, rt := Q, bk := fun _ _ => False, ct := fun _ _ => False } [some (.ref p), some (.int ch), some (.int (b : Int)), some pg, some cv] H') := by
          intro H' as' ws' ps' hl FA' o' t' kk
          obtain ⟨dx', hob'⟩ := id FA'.ob
          refine ⟨_, rfl, p, C, dx', _, rfl, hob', T.cl, T.n4, ff_len, ?_⟩
          rw [ff_putP]
          refine ⟨_, rfl, p, C, dx', _, rfl, upd_same, T.cl, T.n5, ff_len, ?_⟩
          rw [ff_putR]
          refine ⟨_, rfl, p, C, dx', _, rfl, upd_same, T.cl, T.n6, ff_len, ?_⟩
          rw [ff_putI]
          obtain ⟨A1, A2, A3⟩ := cut_end FA' hob'
          refine kk _ A1 (fun x o hx hn => A2 x o (o' x o hx hn) (fun z => hn ?_)) (t'.trans A3)
          rw [List.mem_singleton.mp z]; exact List.mem_cons_self
        have car : Carried C H p w c as ws ps pw rm (.ref t) b pg (cutV' ch cv) (fun H' => sFld K (tVar 0) (tC (.bl true)) "_powered" { nx := sFld K (tVar 0) (tC .non) "_remaining" { nx := sFld K (tVar 0) (tC .non) "_interrupted" { nx := fun _ H' => Q .non H', rt := Q, bk := fun _ _ => False, ct := fun _ _ => False }, rt := Q, bk := fun _ _ => False, ct := fun _ _ => False }, rt := Q, bk := fun _ _ => False, ct := fun _ _ => False } [some (.ref p), some (.int ch), some (.int (b : Int)), some pg, some cv] H') := by
          rcases k with ⟨e1, e2, k⟩ | ⟨vs, e1, e2, e3, e4, k⟩
          · exact .inl ⟨e1, e2, fun q H' wv hq hw F' o' t' => done H' _ _ _ (by rw [List.length_set]) F' o' t' fun H2 F2 o2 t2 => k q H2 wv hq hw F2 o2 t2⟩
          · exact .inr ⟨vs, e1, e2, e3, e4, fun H' F' o' t' => done H' _ _ _ (by rw [List.length_set]) F' o' t' fun H2 F2 o2 t2 => k H2 F2 o2 t2⟩
        refine ⟨_, rfl, p, dx, _, rfl, hob, ff_no (by decide +kernel), _, rfl, _, rfl, _, rfl, rfl, _, rfl, ?_⟩
        unfold cutV' at car
        by_cases c1 : ch = 1
        · rw [if_pos c1] at car
          subst c1
          refine iteT ⟨_, rfl, p, w, c, as, ws, ps, pw, rm, .ref t, b, pg, cv, rfl, FA, hb, ?_⟩
          exact car
        · rw [if_neg c1] at car
          refine ite2 (fun z => absurd (of_decide_eq_true z) (by intro e; cases e; exact c1 rfl)) (fun _ => ?_)
          refine ⟨p, w, c, as, ws, ps, pw, rm, .ref t, b, pg, .str "torn", rfl, FA, hb, ?_⟩
          exact car
    · rcases h with ⟨hn, k⟩ | ⟨h1, h2, _⟩ | ⟨h1, h2, _⟩
      · have e : (decide ((0 : Int) ≤ ch) && decide (ch ≤ 2)) = false := by
          rw [Bool.and_eq_false_iff, decide_eq_false_iff_not, decide_eq_false_iff_not]; omega
        rw [e]
        exact iteT k
      · exact absurd ⟨h1, h2⟩ hc
      · exact absurd ⟨by omega, h2⟩ hc
end
end Sg

set_option Elab.async false
set_option linter.all false
set_option maxRecDepth 100000
set_option maxHeartbeats 4000000
namespace Sg
open PySem PySem.Spec PyProof.Rows L2
/-! ### a def that is called in an except suite with the exception that the suite holds: its promise names this exception, its class and its dict -/
abbrev SpP := Addr → Value → Option Addr → Sp
structure FnP (P : Program) (w : World) (K : PySem.W.Frag) (mg : Str → Option Value) (base : Heap) (k : Nat) (f : Addr) (fd : FuncData) (ps : List Str) (sp : SpP) : Prop where
  len : ∀ a cls d vs H Q E, sp a cls d vs H Q E → vs.length = ps.length
  run : ∀ (A : Around) (outer : List Env) (s : Shared) (H : Hp) (args : Args) (us : List Value) (vs : List V) (Q : VK) (E : XK) (a : Addr) (oe : Obj) (cls : Value) (d : Option Addr), L2H.RoomH k A → L2H.PinOk outer H s (a, oe) → Zc cls d oe → (∃ v, oe.data = .fields v) →
    Env0 P w K mg base A outer s H → BindsTo s fd args (ps.zip us) → Vals vs us → sp a cls d vs H Q E → codeAny (model P w) A (.call (.ref f) args) (CR CX0 outer P w H s Q E) s
section
variable {P : Program} {w : World} {K : PySem.W.Frag} {mg : Str → Option Value} {base : Heap}
theorem Fun.okP {x qual : Str} {st : Stmt} {f : Addr} {fd : FuncData} {N ps : List Str} {k : Nat} {sp : SpP} (F : Fun K x qual st f fd) (S : FnScope N ps (defScope st)) (len : ∀ a cls d vs H Q E, sp a cls d vs H Q E → vs.length = ps.length)
    (hbody : ∀ (cdv : Value) (A : Around) (outer : List Env) (s : Shared) (H : Hp) (vs : List V) (Q : VK) (E : XK) (a : Addr) (oe : Obj) (cls : Value) (d : Option Addr), Zc cls d oe → (∃ v, oe.data = .fields v) → sp a cls d vs H Q E →
      ∃ t, PSs (L2H.cxH CX0 P w K mg base N qual (defScope st) f cdv A outer s H E (a, oe)) (defBody st) t ∧ t { nx := fun _ H' => Q .non H', rt := Q } (L2.start N vs) H) : FnP P w K mg base (k + 1) f fd ps sp := by
  obtain ⟨oc, od, kV, doc, pm, an, cdv, ct, osl, rfl, lk, hcd⟩ := F.ex
  refine ⟨len, fun A outer s H args us vs Q E a oe cls d hr hpin hz hf e0 hb r hsp => ?_⟩
  have kin : K.In s.heap := e0.mod.kin.keeps fun b o e => (e0.bs b o e).1
  have names : ∀ y ∈ ps.zip us, (defScope st).names.lookup y.1 = some .local ∨ ((defScope st).names.lookup y.1 = some .cell ∧ ((cellsFrom (s.heap.objs.size + 1) (defScope st).names []).lookup y.1).isSome = true) := by
    rintro ⟨n, v⟩ hy
    exact (S.par n (List.of_mem_zip hy).1).imp id fun q => ⟨q, PySem.W.cellsFrom_some _ _ _ (.inl q)⟩
  refine codeAny_call_function hr.depth (kin _ _ lk) rfl S.co S.gen rfl (PySem.W.codeRec_of kin hcd) (hb _ _ _ _ (wpAny_newFunctionEnv_cells S.kind names fun env he s1 x => ?_))
  subst he
  obtain ⟨t, ht, hq⟩ := hbody cdv A outer s H vs Q E a oe cls d hz hf hsp
  have I := L2H.inv_startH (CX := CX0) (f := f) (cd := cdv) (E := E) S hpin e0 (len _ _ _ _ _ _ _ hsp) r x
  refine ⟨(e0.mod.nolimit.keeps fun b o e => (e0.bs b o e).1).keeps x.toInCall.keep, codeAny_func (wpAny_mono (ht.run [] s1 _ H _ I hq) (fun fl s' hs => ?_) fun e s' hs => hs)⟩
  match fl, hs with
  | .ret u, ⟨v, σ', H', J, rv, q⟩ => exact ⟨v, H', J.os, J.bare, J.base, J.hok, rv, q⟩
  | .next, ⟨σ', H', J, q⟩ => exact ⟨V.non, H', J.os, J.bare, J.base, J.hok, rfl, q⟩
  | .brk, ⟨_, _, _, q⟩ => exact q.elim
  | .cont, ⟨_, _, _, q⟩ => exact q.elim
end
section
variable {X : Cx} {k : Nat} {f : Addr} {fd : FuncData} {ps : List Str} {sp : SpP} {x : Str} {q pos : Pos} {e : Expr} {es : List Expr} {t : TA}
/-- x(e, ..) in the suite that holds the exception a -/
theorem pe_callP {a : Addr} {oe : Obj} {cls : Value} {d : Option Addr} {pn : List (Addr × Obj)} (F : FnP X.prog X.w X.K X.mg X.base k f fd ps sp) (hr : L2H.RoomH k (X.suite a ((a, oe) :: pn)).A) (hz : Zc cls d oe) (hf : ∃ v, oe.data = .fields v) (hg : Gl (X.suite a ((a, oe) :: pn)) x) (hm : X.mg x = some (.ref f))
    (hk : PySem.W.keepIn X.K (.ref f) = true) (hb : Binds X.K fd ps []) (ha : PA (X.suite a ((a, oe) :: pn)) (e :: es) t) (hdb : (x == ("__debug__" : Str)) = false := by decide) (he : starEach (e :: es) X.env = (false, eval e X.env) :: starEach es X.env := by rfl) (hpl : (backTo pos (starEach es X.env)).any (·.1) = false := by rfl) :
    PE (X.suite a ((a, oe) :: pn)) (.Call (.Name x q) (e :: es) [] pos) (fun σ H Q => t σ H fun vs H1 => sp a cls d vs H1 Q E0) := by
  refine ⟨fun pins s σ H Q I h => ?_⟩
  refine wpAny_Call_Name_kw (ld_glob I hg hm ?_ hdb)
  refine PySem.W.callWith_K (h₀ := X.base) I.ok.mod.kin hk (thn (ha.run pos pins s σ H _ I h) fun us s1 ⟨vs, H1, I1, r, h1⟩ => ⟨I1.kIn, ?_⟩) he hpl
  have hl : us.length = ps.length := by rw [← r.length]; exact F.len _ _ _ _ _ _ _ h1
  have b := hb s1 us I1.kIn (by rw [List.append_nil]; exact hl)
  rw [List.append_nil] at b
  have P1 := I1.pin (a, oe) (List.mem_append_left _ List.mem_cons_self)
  have hpin : L2H.PinOk X.stack H1 s1 (a, oe) := ⟨P1.1, P1.2.1, fun hm => (List.mem_cons.mp (I1.stkSub a hm)).elim P1.2.2.1 P1.2.2.2.1, P1.2.2.2.2⟩
  refine wpAny_call (codeAny_mono (F.run _ _ s1 H1 ⟨us, []⟩ us vs Q E0 a oe cls d hr hpin hz hf I1.env0 b r h1) fun r s' hq => ?_)
  match r, hq with
  | .error e, hq => exact hq.elim
  | .ok (.ret u), hq => exact I1.after hq
  | .ok .next, hq => exact hq.elim
  | .ok .brk, hq => exact hq.elim
  | .ok .cont, hq => exact hq.elim
/-- isinstance(e, c) where the exception a is held -/
theorem call_isP {X : Cx} {a D : Addr} {oe : Obj} (hp : (a, oe) ∈ X.pn) (C : ExcC X.K D) (hz : Zc (.ref D) none oe) (hf : ∃ vs, oe.data = .fields vs) : CallR X (.builtin "isinstance") (rIsE X.K D a) := by
  intro pins s σ H xs us Q I r h
  obtain ⟨c, cv, b, rfl, hcv, e, q⟩ := h
  match us, r with
  | [_, u], .cons (b := _) rx (.cons rt .nil) =>
    cases rx
    have ec := hcv _ rt
    subst ec
    obtain ⟨hget, _⟩ := I.pin (a, oe) (List.mem_append_left _ hp)
    obtain ⟨vs, hv⟩ := hf
    have J : PySem.W.InstAt s.heap a oe D none := by
      obtain ⟨oc, od, oda, osl⟩ := oe
      obtain ⟨h1, h2⟩ := hz
      dsimp only at h1 h2 hv
      subst h1 h2 hv
      exact ⟨hget, rfl, rfl, trivial⟩
    exact PySem.W.kia_one (PySem.W.handS_kitx_exc C.hg C.hk C.hs C.hd C.ha C.hn C.ht C.hm) I.kIn J e (fun z => nomatch z) fun tk => ⟨.bl b, H, I.kept (t' := tk) fun _ _ z => z, rfl, q⟩
end
end Sg

set_option Elab.async false
set_option linter.all false
set_option maxRecDepth 100000
set_option maxHeartbeats 4000000
namespace Sg
open PySem PySem.Spec PyProof.Rows L2
/-- o.m(e, ..) in a try's body: what is raised is wished for at the slots as they stand -/
def tMethT (C : Addr) (m : Str) (sp : Sp) (E : L2.St → XK) (ta : TE) (t : TA) : TE := fun σ H Q => ta σ H fun x H1 => ∃ a dx fs, x = .ref a ∧ H1 a = some (.ins C dx fs) ∧ fs.lookup m = Option.none ∧ t σ H1 fun vs H2 => sp (x :: vs) H2 Q (E σ)
theorem pe_methT {X : Cx} {CX : CXT} {k : Nat} {f C : Addr} {fd : FuncData} {ps : List Str} {sp : Sp} {E : L2.St → XK} {m : Str} {pos apos : Pos} {e o : Expr} {es : List Expr} {ta : TE} {t : TA} {pl : Sem Bool} (ho : PE X o ta) (c : Cls X.K C) (hm : Meth X.K C m f)
    (F : FnOk X.prog X.w X.K X.mg X.base CX k f fd ps sp) (hr : Room k X.A) (hb : Binds X.K fd ps []) (hx : ∀ σ, PassesAt CX X σ (E σ)) (ha : PA X (e :: es) t)
    (hst : starEach (e :: es) X.env = (false, eval e X.env) :: starEach es X.env := by rfl) (hpl : (backTo pos (starEach es X.env)).any (·.1) = false := by rfl)
    (ht : eval (.Call (.Attribute o m apos) (e :: es) [] pos) X.env = (do
      let ov ← eval o X.env
      standAt apos.atName
      let (f, first) ← holding [ov] (getMethod ov m pl)
      callWith pos f first (backTo pos (starEach (e :: es) X.env)) (backToKw pos (keywordEach [] X.env))) := by rfl) :
    PE X (.Call (.Attribute o m apos) (e :: es) [] pos) (tMethT C m sp E ta t) := by
  constructor
  intro pins s σ H Q I h
  refine PySem.W.methodCall_KW (pl := pl) (thn (ho.run pins s σ H _ I h) ?_) ht
  rintro u s1 ⟨x, H1, I1, rx, a, dx, fs, rfl, ea, l, q⟩
  obtain rfl : u = Value.ref a := rx
  refine getmeth_ok I1 ea c hm l ?_
  refine PySem.W.callWith_K (first := [.ref a]) (h₀ := X.base) I.ok.mod.kin hm.kp (thn (ha.run pos pins s1 σ H1 _ I1 q) ?_) hst hpl
  rintro us s2 ⟨vs, H2, I2, r, q2⟩
  exact ⟨I2.kIn, run_fnS (us := .ref a :: us) (vs := .ref a :: vs) F hr hb (hx σ) I2 (.cons rfl r) q2⟩
abbrev sKind : Stmt := top 18
abbrev sDo : Stmt := top 19
abbrev sNext : Stmt := top 20
abbrev sApply : Stmt := top 21
abbrev sDue : Stmt := top 22
abbrev sCutL : Stmt := top 23
abbrev sSame : Stmt := top 24
abbrev sLaw : Stmt := top 25
theorem str_eqT {x : Str} : decide (V.str x = V.str x) = true := decide_eq_true rfl
theorem str_eqF {x y : Str} (h : ¬ x = y) : decide (V.str x = V.str y) = false := decide_eq_false (fun z => h (by cases z; rfl))
theorem kit_self {K : PySem.W.Frag} {C : Addr} : PySem.W.kitOne K (.ref C) (.ref C) = some true := by
  unfold PySem.W.kitOne
  rw [if_pos (by simp)]
/-- what is refused: a new list -/
def Refd (w : V) (H : Hp) (Q : VK) : Prop := ∀ l, H l = Option.none → Q (.ref l) (upd H l (.lst [.str "refused", w]))
def spKind (CN CP : Addr) : SpP := fun a cls d vs H Q _ => vs = [.ref a] ∧ d = Option.none ∧ ((cls = .ref CN ∧ Refd (.bl true) H Q) ∨ (cls = .ref CP ∧ Refd (.str "off") H Q))
/-- what an error comes to -/
def ErrTo (CN CP : Addr) (Q : VK) (E : XK) : Prop := (∀ H, Refd (.bl true) H Q → E (.ref CN) Option.none H) ∧ (∀ H, Refd (.str "off") H Q → E (.ref CP) Option.none H)
def spDo (K : PySem.W.Frag) (C CN CP : Addr) : Sp := fun vs H Q _ => ∃ p act b g rv dx fs, vs = [.ref p, .str act, b, g, rv] ∧ H p = some (.ins C dx fs) ∧ (∀ m ∈ ([("program" : Str), "erase", "read", "fail_after", "cut"]), fs.lookup m = Option.none) ∧
  ((act = "program" ∧ ∀ E, ErrTo CN CP Q E → spProg K C CN CP [.ref p, b, g, rv] H Q E) ∨
   (act = "erase" ∧ ∀ E, ErrTo CN CP Q E → spErase C CN CP [.ref p, b] H Q E) ∨
   (act = "read" ∧ ∀ E, ErrTo CN CP Q E → spRead C CN CP [.ref p, b, g] H Q E) ∨
   (act = "fail" ∧ ∀ E, ErrTo CN CP Q E → spFail K C CN [.ref p, b] H Q E) ∨
   (act = "cut" ∧ ∀ E, ErrTo CN CP Q E → spCut C CN [.ref p, b] H Q E))
section
variable {P : Program} {wd : World} {K : PySem.W.Frag} {mg : Str → Option Value} {base : Heap} {f C CN CP CS fW fB fk f1 f2 f3 f4 f5 : Addr} {fd fdB fdW fdk fd1 fd2 fd3 fd4 fd5 : FuncData}
theorem scKind : FnScope ["e"] ["e"] (defScope sKind) := ⟨rfl, rfl, rfl, by decide +kernel, rfl, by decide +kernel, by decide +kernel⟩
theorem ok_kind (F : Fun K "_law_kind" "_law_kind" sKind f fd) (T : FT K mg C CN CP CS fW fB) (XN : ExcC K CN) (XP : ExcC K CP) (hNP : PySem.W.kitOne K (.ref CN) (.ref CP) = some false) : FnP P wd K mg base 1 f fd ["e"] (spKind CN CP) := by
  refine Sg.Fun.okP F scKind (fun a cls d vs H Q E h => ?_) (fun cdv A outer s H vs Q E a oe cls d hz hf h => ?_)
  · obtain ⟨rfl, _⟩ := h
    rfl
  · obtain ⟨rfl, rfl, ⟨rfl, k⟩ | ⟨rfl, k⟩⟩ := h
    · refine ⟨_, pss_cons (ps_if (pt_val (pe_callB (call_isP (a := a) (List.mem_singleton.mpr rfl) XN hz hf) (by rfl) T.bd.isi boot_isi (pa_cons (pv 0) (pa_cons (pe_glob (v := .ref CP) (by rfl) T.gP rfl) pa_nil)))) (pss_one (ps_ret (pe_lst (pa_cons pe_str (pa_cons pe_str pa_nil))))) pss_nil)
        (pss_one (ps_ret (pe_lst (pa_cons pe_str (pa_cons (pe_callB (call_isP (a := a) (List.mem_singleton.mpr rfl) XN hz hf) (by rfl) T.bd.isi boot_isi (pa_cons (pv 0) (pa_cons (pe_glob (v := .ref CN) (by rfl) T.gN rfl) pa_nil))) pa_nil))))), ?_⟩
      refine ⟨_, rfl, _, .ref CP, false, rfl, fun u hu => hu, hNP, _, rfl, iteF ?_⟩
      exact ⟨_, rfl, _, .ref CN, true, rfl, fun u hu => hu, kit_self, by show 2 ≤ sizeLine; decide, fun l hl => k l hl⟩
    · refine ⟨_, pss_cons (ps_if (pt_val (pe_callB (call_isP (a := a) (List.mem_singleton.mpr rfl) XP hz hf) (by rfl) T.bd.isi boot_isi (pa_cons (pv 0) (pa_cons (pe_glob (v := .ref CP) (by rfl) T.gP rfl) pa_nil)))) (pss_one (ps_ret (pe_lst (pa_cons pe_str (pa_cons pe_str pa_nil))))) pss_nil)
        (pss_one (ps_ret (pe_lst (pa_cons pe_str (pa_cons (pe_callB (call_isP (a := a) (List.mem_singleton.mpr rfl) XP hz hf) (by rfl) T.bd.isi boot_isi (pa_cons (pv 0) (pa_cons (pe_glob (v := .ref CN) (by rfl) T.gN rfl) pa_nil))) pa_nil))))), ?_⟩
      exact ⟨_, rfl, _, .ref CP, true, rfl, fun u hu => hu, kit_self, _, rfl, iteT ⟨by show 2 ≤ sizeLine; decide, fun l hl => k l hl⟩⟩
theorem scDo : FnScope ["flash", "act", "block", "page", "record", "e"] ["flash", "act", "block", "page", "record"] (defScope sDo) := ⟨rfl, rfl, rfl, by decide +kernel, rfl, by decide +kernel, by decide +kernel⟩
abbrev tSuite (CN CP : Addr) (a : Addr) (cls : Value) (d : Option Addr) : TS := tRet (fun σ H Q => tCons (tVar 5) tNil σ H fun vs H1 => spKind CN CP a cls d vs H1 Q E0)
theorem ok_do (F : Fun K "_law_do" "_law_do" sDo f fd) (T : FT K mg C CN CP CS fW fB)
    (GK : FnP P wd K mg base 1 fk fdk ["e"] (spKind CN CP)) (bK : Binds K fdk ["e"] []) (kK : PySem.W.keepIn K (.ref fk) = true) (mK : mg "_law_kind" = some (.ref fk))
    (G1 : FnOk P wd K mg base (L2.CX P wd) 5 f1 fd1 ["self", "block", "page", "record"] (spProg K C CN CP)) (b1 : Binds K fd1 ["self", "block", "page", "record"] []) (m1 : Meth K C "program" f1)
    (G2 : FnOk P wd K mg base (L2.CX P wd) 4 f2 fd2 ["self", "block"] (spErase C CN CP)) (b2 : Binds K fd2 ["self", "block"] []) (m2 : Meth K C "erase" f2)
    (G3 : FnOk P wd K mg base (L2.CX P wd) 5 f3 fd3 ["self", "block", "page"] (spRead C CN CP)) (b3 : Binds K fd3 ["self", "block", "page"] []) (m3 : Meth K C "read" f3)
    (G4 : FnOk P wd K mg base (L2.CX P wd) 3 f4 fd4 ["self", "count"] (spFail K C CN)) (b4 : Binds K fd4 ["self", "count"] []) (m4 : Meth K C "fail_after" f4)
    (G5 : FnOk P wd K mg base (L2.CX P wd) 3 f5 fd5 ["self", "choice"] (spCut C CN)) (b5 : Binds K fd5 ["self", "choice"] []) (m5 : Meth K C "cut" f5) :
    FnOk P wd K mg base CX0 6 f fd ["flash", "act", "block", "page", "record"] (spDo K C CN CP) := by
  refine F.ok scDo (fun vs H Q E h => ?_) (fun cdv A outer s H vs Q E hr h => ?_)
  · obtain ⟨p, act, b, g, rv, dx, fs, rfl, _⟩ := h
    rfl
  · obtain ⟨p, act, b, g, rv, dx, fs, rfl, hob, hno, h⟩ := h
    have hr1 : Room 1 _ := hr.mono (by decide)
    have hr3 : Room 3 _ := hr.mono (by decide)
    have hr4 : Room 4 _ := hr.mono (by decide)
    refine ⟨_, pss_one (ps_try_as (i := 5) (Wout := fun _ _ _ _ => False)
      (tb := fun W => tSeq (tIfS (tTest (tOp rEq (tVar 1) (tC (.str "program")))) (tRet (tMethT C "program" (spProg K C CN CP) (WE W) (tVar 0) (tCons (tVar 2) (tCons (tVar 3) (tCons (tVar 4) tNil))))) tNext)
        (tSeq (tIfS (tTest (tOp rEq (tVar 1) (tC (.str "erase")))) (tRet (tMethT C "erase" (spErase C CN CP) (WE W) (tVar 0) (tCons (tVar 2) tNil))) tNext)
        (tSeq (tIfS (tTest (tOp rEq (tVar 1) (tC (.str "read")))) (tRet (tMethT C "read" (spRead C CN CP) (WE W) (tVar 0) (tCons (tVar 2) (tCons (tVar 3) tNil)))) tNext)
        (tSeq (tIfS (tTest (tOp rEq (tVar 1) (tC (.str "fail")))) (tRet (tMethT C "fail_after" (spFail K C CN) (WE W) (tVar 0) (tCons (tVar 2) tNil))) tNext)
        (tRet (tMethT C "cut" (spCut C CN) (WE W) (tVar 0) (tCons (tVar 2) tNil)))))))
      (ts := tSuite CN CP) rfl rfl scDo.nd rfl rfl ⟨rfl, by decide, Or.inl T.gS⟩ takes0
      (fun W pn xe tk _ => pss_cons (ps_if (pt_cmpR op_eq (pv 1) pe_str (nomark _)) (pss_one (ps_ret (by exact (pe_methT (pv 0) T.cl m1 G1 hr b1 (fun σ => passAt tk σ) (by exact (pa_cons (pv 2) (pa_cons (pv 3) (pa_cons (pv 4) pa_nil)))))))) pss_nil)
        (pss_cons (ps_if (pt_cmpR op_eq (pv 1) pe_str (nomark _)) (pss_one (ps_ret (by exact (pe_methT (pv 0) T.cl m2 G2 hr4 b2 (fun σ => passAt tk σ) (by exact (pa_cons (pv 2) pa_nil)))))) pss_nil)
        (pss_cons (ps_if (pt_cmpR op_eq (pv 1) pe_str (nomark _)) (pss_one (ps_ret (by exact (pe_methT (pv 0) T.cl m3 G3 hr b3 (fun σ => passAt tk σ) (by exact (pa_cons (pv 2) (pa_cons (pv 3) pa_nil))))))) pss_nil)
        (pss_cons (ps_if (pt_cmpR op_eq (pv 1) pe_str (nomark _)) (pss_one (ps_ret (by exact (pe_methT (pv 0) T.cl m4 G4 hr3 b4 (fun σ => passAt tk σ) (by exact (pa_cons (pv 2) pa_nil)))))) pss_nil)
        (pss_one (ps_ret (by exact (pe_methT (pv 0) T.cl m5 G5 hr3 b5 (fun σ => passAt tk σ) (by exact (pa_cons (pv 2) pa_nil))))))))))
      (fun a oe cls d pn hz hf => pss_one (ps_ret (by exact (pe_callP GK ⟨hr1.dp, hr1.un⟩ hz hf (by rfl) mK kK bK (by exact (pa_cons (pv 5) pa_nil))))))), ?_⟩
    have err : ErrTo CN CP Q (WE (wAs K (.ref CS) 5 (tSuite CN CP) (fun _ _ _ _ => False) { nx := fun σ' H' => Q .non H', rt := Q, bk := fun _ _ => False, ct := fun _ _ => False }) [some (.ref p), some (.str act), some b, some g, some rv, none]) := by
      refine ⟨fun H' k => ⟨true, T.eN, fun _ a ha => ?_, fun z => Bool.noConfusion z⟩, fun H' k => ⟨true, T.eP, fun _ a ha => ?_, fun z => Bool.noConfusion z⟩⟩
      · exact ⟨_, rfl, rfl, rfl, .inl ⟨rfl, k⟩⟩
      · exact ⟨_, rfl, rfl, rfl, .inr ⟨rfl, k⟩⟩
    refine ⟨_, rfl, rfl, _, rfl, ?_⟩
    rcases h with ⟨rfl, h⟩ | ⟨rfl, h⟩ | ⟨rfl, h⟩ | ⟨rfl, h⟩ | ⟨rfl, h⟩
    · rw [str_eqT]
      exact iteT ⟨_, rfl, p, dx, _, rfl, hob, hno _ (by simp), _, rfl, _, rfl, _, rfl, h _ err⟩
    · rw [str_eqF (by decide +kernel)]
      refine iteF ⟨_, rfl, rfl, _, rfl, ?_⟩
      rw [str_eqT]
      exact iteT ⟨_, rfl, p, dx, _, rfl, hob, hno _ (by simp), _, rfl, h _ err⟩
    · rw [str_eqF (by decide +kernel)]
      refine iteF ⟨_, rfl, rfl, _, rfl, ?_⟩
      rw [str_eqF (by decide +kernel)]
      refine iteF ⟨_, rfl, rfl, _, rfl, ?_⟩
      rw [str_eqT]
      exact iteT ⟨_, rfl, p, dx, _, rfl, hob, hno _ (by simp), _, rfl, _, rfl, h _ err⟩
    · rw [str_eqF (by decide +kernel)]
      refine iteF ⟨_, rfl, rfl, _, rfl, ?_⟩
      rw [str_eqF (by decide +kernel)]
      refine iteF ⟨_, rfl, rfl, _, rfl, ?_⟩
      rw [str_eqF (by decide +kernel)]
      refine iteF ⟨_, rfl, rfl, _, rfl, ?_⟩
      rw [str_eqT]
      exact iteT ⟨_, rfl, p, dx, _, rfl, hob, hno _ (by simp), _, rfl, h _ err⟩
    · rw [str_eqF (by decide +kernel)]
      refine iteF ⟨_, rfl, rfl, _, rfl, ?_⟩
      rw [str_eqF (by decide +kernel)]
      refine iteF ⟨_, rfl, rfl, _, rfl, ?_⟩
      rw [str_eqF (by decide +kernel)]
      refine iteF ⟨_, rfl, rfl, _, rfl, ?_⟩
      rw [str_eqF (by decide +kernel)]
      exact iteF ⟨_, rfl, p, dx, _, rfl, hob, hno _ (by simp), _, rfl, h _ err⟩
end
end Sg

set_option Elab.async false
set_option linter.all false
set_option maxRecDepth 100000
set_option maxHeartbeats 4000000
namespace Sg
open PySem PySem.Spec PyProof.Rows L2
def spNext : Sp := fun vs H Q _ => ∃ a xs, vs = [.ref a] ∧ H a = some (.lst (row xs)) ∧ PgsN H xs ∧ Q (.int (xs.length : Int)) H
structure Held (H : Hp) (hd wl : Addr) (bs : List Addr) (ws : List Int) (ps : List (List V)) : Prop where
  wr : H wl = some (.lst (ws.map V.int))
  gr : Grid H hd bs ps
  lw : ws.length = ps.length
  pg : Pgs H ps
  nwc : wl ≠ hd
  nwa : wl ∉ bs
theorem Held.same {H H' : Hp} {hd wl : Addr} {bs : List Addr} {ws : List Int} {ps : List (List V)} (h : Held H hd wl bs ws ps) (s : Same H H') : Held H' hd wl bs ws ps := ⟨s _ _ h.wr, h.gr.same s, h.lw, h.pg.mono (same_tups s), h.nwc, h.nwa⟩
theorem Held.off {H H' : Hp} {hd wl : Addr} {bs : List Addr} {ws : List Int} {ps : List (List V)} {xs : List Addr} (F : Held H hd wl bs ws ps) (o : Off xs H H') (t : Tups H H') (d : ∀ x ∈ (wl :: hd :: bs), x ∉ xs) : Held H' hd wl bs ws ps := by
  refine ⟨o _ _ F.wr (d _ List.mem_cons_self), ?_, F.lw, F.pg.mono t, F.nwc, F.nwa⟩
  exact F.gr.keep (fun ob hx => o _ _ hx (d _ (List.mem_cons_of_mem _ List.mem_cons_self))) fun a ha ob hx => o _ _ hx (d _ (List.mem_cons_of_mem _ (List.mem_cons_of_mem _ ha)))
/-- what the law's own operation makes -/
def HApp (H : Hp) (hd wl : Addr) (bs : List Addr) (ws : List Int) (hs : List (List V)) (b : Nat) (act : Str) (g cv : V) (Kt : Hp → Prop) : Prop :=
  (act = "program" ∧ ∃ vs, hs[b]? = some vs ∧ g = .int (vs.length : Int) ∧ vs.length < 8 ∧ PgN H cv ∧ ∀ H', Held H' hd wl bs ws (hs.set b (vs ++ [cv])) → Off (wl :: hd :: bs) H H' → Tups H H' → Kt H') ∨
  (act ≠ "program" ∧ (cv = .non ∨ PgN H cv) ∧ ∀ q H' wv, H q = Option.none → ws[b]? = some wv → Held H' hd wl (bs.set b q) (ws.set b (wv + 1)) (hs.set b (era cv)) → Off (wl :: hd :: bs) H H' → Tups H H' → Kt H')
theorem HApp.imp {H : Hp} {hd wl : Addr} {bs : List Addr} {ws : List Int} {hs : List (List V)} {b : Nat} {act : Str} {g cv : V} {Kt Kt' : Hp → Prop} (h : HApp H hd wl bs ws hs b act g cv Kt) (k : ∀ H', Off (wl :: hd :: bs) H H' → Tups H H' → Kt H' → Kt' H') : HApp H hd wl bs ws hs b act g cv Kt' := by
  rcases h with ⟨e1, vs, e2, e3, e4, e5, h⟩ | ⟨e1, e2, h⟩
  · exact .inl ⟨e1, vs, e2, e3, e4, e5, fun H' x o t => k H' o t (h H' x o t)⟩
  · exact .inr ⟨e1, e2, fun q H' wv hq hw x o t => k H' o t (h q H' wv hq hw x o t)⟩
def spApply : Sp := fun vs H Q _ => ∃ hd wl act b g cv bs ws hs, vs = [.ref hd, .ref wl, .str act, .int ((b : Nat) : Int), g, cv] ∧ Held H hd wl bs ws hs ∧ b < hs.length ∧ HApp H hd wl bs ws hs b act g cv (Q .non)
def RefS (w : V) (H : Hp) (Q : VK) : Prop := ∀ l H', H l = Option.none → Same H H' → H' l = some (.lst [.str "refused", w]) → Q (.ref l) H'
def recV (act : Str) (rv : V) : V := if act = "program" then rv else .non
def spDue : Sp := fun vs H Q _ => ∃ hd wl wd act b g rv bs ws hs vs0 rm pw w2, vs = [.ref hd, .ref wl, .ref wd, .str act, .int ((b : Nat) : Int), .int ((g : Nat) : Int), rv] ∧ Held H hd wl bs ws hs ∧ hs[b]? = some vs0 ∧ H wd = some (.lst [rm, .bl pw, w2]) ∧ wd ∉ (wl :: hd :: bs) ∧ (rm = .non ∨ ∃ r, rm = .int r) ∧
  (w2 = .non ∨ ∃ t, w2 = .ref t) ∧ g < 8 ∧
  ((act = "read" ∧ (pw = false → RefS (.str "off") H Q) ∧ (pw = true → ∀ v H', (row vs0)[g]? = some v → Same H H' → Q v H')) ∨
   (act = "program" ∧ vs0.length ≠ g ∧ RefS (.bl true) H Q) ∨
   ((act = "erase" ∨ (act = "program" ∧ vs0.length = g)) ∧ PgN H rv ∧
     (pw = false → RefS (.str "off") H Q) ∧
     (pw = true → rm = .int 0 → ∀ t l H', H t = Option.none → H' t = some (.tup [.str act, .int (b : Int), .int (g : Int), rv]) → H' wd = some (.lst [.int 0, .bl false, .ref t]) → Off [wd] H H' → Tups H H' → H l = Option.none → H' l = some (.lst [.str "refused", .str "off"]) → Q (.ref l) H') ∧
     (pw = true → rm ≠ .int 0 → ∀ H1, H1 wd = some (.lst [remAfter rm, .bl true, w2]) → Off [wd] H H1 → Tups H H1 → HApp H1 hd wl bs ws hs b act (.int (g : Int)) (recV act rv) (Q .non))))
def spCutL : Sp := fun vs H Q _ => ∃ hd wl wd ch bs ws hs rm pw w2, vs = [.ref hd, .ref wl, .ref wd, .int ch] ∧ Held H hd wl bs ws hs ∧ H wd = some (.lst [rm, .bl pw, w2]) ∧ wd ∉ (wl :: hd :: bs) ∧
  ((¬ (0 ≤ ch ∧ ch ≤ 2) ∧ RefS (.bl true) H Q) ∨
   (0 ≤ ch ∧ ch ≤ 2 ∧ (w2 = .non ∨ ∃ t, w2 = .ref t) ∧ (w2 = .non ∨ ch = 0) ∧ ∀ H', H' wd = some (.lst [.non, .bl true, .non]) → Off [wd] H H' → Tups H H' → Q .non H') ∨
   (0 < ch ∧ ch ≤ 2 ∧ ∃ (t : Addr) (act : Str) (b g : Nat) (rv : V), w2 = .ref t ∧ H t = some (.tup [.str act, .int (b : Int), .int (g : Int), rv]) ∧ b < hs.length ∧
     HApp H hd wl bs ws hs b act (.int (g : Int)) (cutV' ch (recV act rv)) (fun H1 => ∀ H', H' wd = some (.lst [.non, .bl true, .non]) → Off [wd] H1 H' → Tups H1 H' → Q .non H')))
def spSame (K : PySem.W.Frag) : Sp := fun vs H Q _ => ∃ x y, vs = [x, y] ∧ ((x = .non ∧ y = .non ∧ Q (.bl true) H) ∨
  (y ≠ .non ∧ ∃ t t' b d, TyX K H x t ∧ TyX K H y t' ∧ PySem.W.kitOne K t (.type "tuple") = some b ∧ PySem.W.kitOne K t' (.type "tuple") = some b ∧ Dp K H x d ∧ Dp K H y d ∧ SeqAt.shaped d = true ∧ PyData.eqv d d = true ∧ Q (.bl true) H))
section
variable {P : Program} {wd : World} {K : PySem.W.Frag} {mg : Str → Option Value} {base : Heap} {f C CN CP CS fW fB f1 f2 f3 f4 : Addr} {fd fdB fdW fd1 fd2 fd3 fd4 : FuncData}
theorem scNext : FnScope ["pages", "last", "page"] ["pages"] (defScope sNext) := ⟨rfl, rfl, rfl, by decide +kernel, rfl, by decide +kernel, by decide +kernel⟩
theorem ok_next (F : Fun K "_law_next" "_law_next" sNext f fd) (B : Blt mg) : FnOk P wd K mg base CX0 1 f fd ["pages"] spNext := by
  refine F.ok scNext (fun vs H Q E h => ?_) (fun cdv A outer s H vs Q E hr h => ?_)
  · obtain ⟨a, xs, rfl, _⟩ := h
    rfl
  · obtain ⟨a, xs, rfl, ha, hx, q⟩ := h
    refine ⟨_, pss_cons (ps_set (i := 1) scNext.nd rfl (Or.inl rfl) pe_int)
      (pss_cons (ps_for PassesOwn.never rfl (pi_range1 (by rfl) B.range (pa_cons pe_int pa_nil)) (pg_name (i := 2) scNext.nd rfl (Or.inl rfl))
        (pss_one (ps_if (pt_cmpR op_notN (pe_ix ix_list (pv 0) (pv 2) (fun _ _ => rfl)) pe_non (nomark _)) (pss_one (ps_set (i := 1) scNext.nd rfl (Or.inl rfl) (pe_op op_add (pv 2) pe_int))) pss_nil)))
      (pss_one (ps_ret (pv 1)))), ?_⟩
    refine ⟨8, rfl, by decide, by decide, ?_⟩
    refine for_range (lo := 0) (n := 8) (fun i σ H' => H' = H ∧ ∃ v2 : Option V, σ = [some (.ref a), some (.int (min i xs.length : Nat)), v2]) ⟨rfl, none, by rw [Nat.zero_min]; rfl⟩ ?_ ?_
    · rintro i σ H' hi ⟨rfl, v2, rfl⟩
      have e0 : (0 : Int) + (i : Int) = (i : Int) := by omega
      by_cases c : i < xs.length
      · have hv : (row xs)[i]? = some xs[i] := row_get (List.getElem?_eq_getElem c)
        have hne := (hx.2 _ (List.getElem_mem c)).ne
        refine ⟨_, rfl, _, rfl, a, _, _, _, rfl, rfl, SqL.of ha, (by rw [e0]; exact atI_nat hv), rfl, _, rfl, ?_⟩
        rw [decide_eq_false hne]
        refine iteT ⟨_, rfl, _, _, rfl, rfl, rfl, some (.int (0 + (i : Int))), ?_⟩
        rw [show ((min (i + 1) xs.length : Nat) : Int) = 0 + (i : Int) + 1 by omega]; rfl
      · have hn : ∀ d, xs.length + d < 8 → (row xs)[xs.length + d]? = some V.non := by
          intro d hd
          unfold row
          rw [List.getElem?_append_right (by omega), List.getElem?_replicate, if_pos (by have := hx.1; omega)]
        have hv : (row xs)[i]? = some V.non := by
          have := hn (i - xs.length) (by omega)
          rwa [show xs.length + (i - xs.length) = i by omega] at this
        refine ⟨_, rfl, _, rfl, a, _, _, _, rfl, rfl, SqL.of ha, (by rw [e0]; exact atI_nat hv), rfl, _, rfl, ?_⟩
        rw [decide_eq_true rfl]
        refine iteF ⟨rfl, some (.int (0 + (i : Int))), ?_⟩
        rw [show min (i + 1) xs.length = min i xs.length by omega]; rfl
    · rintro σ H' ⟨rfl, v2, rfl⟩
      refine ⟨_, rfl, ?_⟩
      rw [show min 8 xs.length = xs.length by have := hx.1; omega]
      exact q
theorem scApply : FnScope ["held", "wears", "act", "block", "page", "content"] ["held", "wears", "act", "block", "page", "content"] (defScope sApply) := ⟨rfl, rfl, rfl, by decide +kernel, rfl, by decide +kernel, by decide +kernel⟩
theorem ok_apply (F : Fun K "_law_apply" "_law_apply" sApply f fd) : FnOk P wd K mg base CX0 1 f fd ["held", "wears", "act", "block", "page", "content"] spApply := by
  refine F.ok scApply (fun vs H Q E h => ?_) (fun cdv A outer s H vs Q E hr h => ?_)
  · obtain ⟨hd, wl, act, b, g, cv, bs, ws, hs, rfl, _⟩ := h
    rfl
  · obtain ⟨hd, wl, act, b, g, cv, bs, ws, hs, rfl, HE, hb, k⟩ := h
    refine ⟨_, pss_one (ps_if (pt_cmpR op_eq (pv 2) pe_str (nomark _))
        (pss_one (ps_asg (pv 5) (pg_sub (pe_ix ix_list (pv 0) (pv 3) (fun _ _ => rfl)) (pv 4) set_list)))
        (pss_cons (ps_asg (pe_op op_rep (pe_lst (pa_cons (pv 5) pa_nil)) pe_int) (pg_sub (pv 0) (pv 3) set_list))
        (pss_one (ps_asg (pe_op op_add (pe_ix ix_list (pv 1) (pv 3) (fun _ _ => rfl)) pe_int) (pg_sub (pv 1) (pv 3) set_list))))), ?_⟩
    have hjb : b < bs.length := by rw [HE.gr.len]; exact hb
    have hjw : b < ws.length := by rw [HE.lw]; exact hb
    refine ⟨_, rfl, rfl, _, rfl, ?_⟩
    rcases k with ⟨rfl, vs, hvs, rfl, hl8, hcv, k⟩ | ⟨hne, hcv, k⟩
    · rw [str_eqT]
      refine iteT ?_
      obtain ⟨a, ha, hrow⟩ := HE.gr.at hvs
      have hPG : PgsN H vs := HE.pg _ (List.mem_of_getElem? hvs)
      refine ⟨_, rfl, _, rfl, _, rfl, hd, _, _, _, rfl, rfl, SqL.of HE.gr.ls, atI_nat (get_map ha), _, rfl, a, _, _, vs.length, rfl, rfl, hrow, Evl.ixN_nat (by rw [row_len (by omega)]; exact hl8), ?_⟩
      rw [row_set hl8]
      have tp : Tups H (upd H a (.lst (row (vs ++ [cv])))) := Tups.lst hrow
      have nwa' : wl ≠ a := fun e => HE.nwa (e ▸ List.mem_of_getElem? ha)
      refine k _ ⟨?_, ?_, ?_, ?_, HE.nwc, HE.nwa⟩ ?_ tp
      · rw [upd_ne nwa']; exact HE.wr
      · exact HE.gr.prog ha upd_same fun x o hx ho => by rw [upd_ne hx]; exact ho
      · rw [List.length_set]; exact HE.lw
      · refine (HE.pg.mono tp).set ⟨by rw [List.length_append]; simp only [List.length_cons, List.length_nil]; omega, fun v hv => ?_⟩
        rcases List.mem_append.mp hv with h | h
        · exact (hPG.2 v h).mono tp
        · rw [List.mem_singleton.mp h]; exact hcv.mono tp
      · intro x o ho hx
        simp only [List.mem_cons, not_or] at hx
        rw [upd_ne (fun e : x = a => hx.2.2 (by rw [e]; exact List.mem_of_getElem? ha))]; exact ho
    · rw [str_eqF hne]
      refine iteF ?_
      have hwv : ws[b]? = some ws[b] := List.getElem?_eq_getElem hjw
      refine ⟨_, rfl, by show 1 ≤ sizeLine; decide, fun l hl => ?_⟩
      refine ⟨l, 8, [cv], rfl, rfl, upd_same, by decide, by decide, by show 8 ≤ sizeLine; decide, fun q hq => ?_⟩
      have hrep : (List.replicate (8 : Int).toNat [cv]).flatten = row (era cv) := by rw [row_era]; rfl
      rw [hrep]
      have s2 : Same H (upd (upd H l (.lst [cv])) q (.lst (row (era cv)))) := (same_new hl).trans (same_new hq)
      have hqH1 : H q = Option.none := (same_new hl).free hq
      refine ⟨_, rfl, _, rfl, hd, _, _, b, rfl, rfl, s2 _ _ HE.gr.ls, Evl.ixN_nat (by rw [List.length_map]; exact hjb), ?_⟩
      have hset : (bs.map V.ref).set b (V.ref q) = (bs.set b q).map V.ref := by rw [List.map_set]
      rw [hset]
      generalize hH2 : upd (upd H l (.lst [cv])) q (.lst (row (era cv))) = H2 at s2
      have hw3 : (upd H2 hd (.lst ((bs.set b q).map V.ref))) wl = some (.lst (ws.map V.int)) := by rw [upd_ne HE.nwc]; exact s2 _ _ HE.wr
      refine ⟨_, rfl, _, rfl, wl, _, _, _, rfl, rfl, SqL.of hw3, atI_nat (get_map hwv), _, _, rfl, rfl, _, rfl, _, rfl, wl, _, _, b, rfl, rfl, hw3, Evl.ixN_nat (by rw [List.length_map]; exact hjw), ?_⟩
      have hset2 : (ws.map V.int).set b (V.int (ws[b] + 1)) = (ws.set b (ws[b] + 1)).map V.int := by rw [List.map_set]
      rw [hset2]
      have keep : ∀ x o, H x = some o → x ≠ wl → x ≠ hd → (upd (upd H2 hd (.lst ((bs.set b q).map V.ref))) wl (.lst ((ws.set b (ws[b] + 1)).map V.int))) x = some o := fun x o hx h1 h2 => by
        rw [upd_ne h1, upd_ne h2]; exact s2 _ _ hx
      have tp : Tups H (upd (upd H2 hd (.lst ((bs.set b q).map V.ref))) wl (.lst ((ws.set b (ws[b] + 1)).map V.int))) := fun t xs ht => keep t _ ht (ne_of ht HE.wr (by intro z; cases z)) (ne_of ht HE.gr.ls (by intro z; cases z))
      have hwq : wl ≠ q := ne_of_none HE.wr hqH1
      have hdq : hd ≠ q := ne_of_none HE.gr.ls hqH1
      refine k q _ ws[b] hqH1 hwv ⟨upd_same, ?_, ?_, ?_, HE.nwc, ?_⟩ ?_ tp
      · refine HE.gr.swap hqH1 ?_ ?_ ?_
        · rw [upd_ne HE.nwc.symm, upd_same]
        · rw [upd_ne hwq.symm, upd_ne hdq.symm, ← hH2, upd_same]
        · intro x hx o ho
          exact keep x o ho (fun e => HE.nwa (e ▸ hx)) (fun e => HE.gr.nc (e ▸ hx))
      · rw [List.length_set, List.length_set]; exact HE.lw
      · exact (HE.pg.mono tp).set ((pgs_era hcv).mono tp)
      · intro hm
        obtain ⟨i, hi⟩ := List.getElem?_of_mem hm
        rcases get_set_cases hi with ⟨_, e, _⟩ | ⟨_, e⟩
        · exact hwq e
        · exact HE.nwa (List.mem_of_getElem? e)
      · intro x o ho hx
        simp only [List.mem_cons, not_or] at hx
        exact keep x o ho hx.1 hx.2.1
theorem scSame : FnScope ["told", "due"] ["told", "due"] (defScope sSame) := ⟨rfl, rfl, rfl, by decide +kernel, rfl, by decide +kernel, by decide +kernel⟩
theorem ok_same (F : Fun K "_law_same" "_law_same" sSame f fd) (T : FT K mg C CN CP CS fW fB) : FnOk P wd K mg base CX0 1 f fd ["told", "due"] (spSame K) := by
  refine F.ok scSame (fun vs H Q E h => ?_) (fun cdv A outer s H vs Q E hr h => ?_)
  · obtain ⟨x, y, rfl, _⟩ := h
    rfl
  · obtain ⟨x, y, rfl, h⟩ := h
    refine ⟨_, pss_cons (ps_if (pt_cmpR op_isN (pv 1) pe_non (nomark _)) (pss_one (ps_ret (pe_cmpR op_isN (pv 0) pe_non (nomark _)))) pss_nil)
      (pss_one (ps_ret (pe_and (pe_cmpR op_eq (pe_callB call_isi (by rfl) T.bd.isi boot_isi (pa_cons (pv 0) (pa_cons (pe_bltn (v := .ty "tuple") (by rfl) T.tup boot_tuple rfl) pa_nil)))
          (pe_callB call_isi (by rfl) T.bd.isi boot_isi (pa_cons (pv 1) (pa_cons (pe_bltn (v := .ty "tuple") (by rfl) T.tup boot_tuple rfl) pa_nil))) (nomark _))
        (pe_one (pe_cmpR (op_eqD hr.units) (pv 0) (pv 1) (nomark _)))))), ?_⟩
    refine ⟨_, rfl, rfl, _, rfl, ?_⟩
    rcases h with ⟨rfl, rfl, q⟩ | ⟨hy, t, t', b, d, ty, ty', k1, k2, d1, d2, sh, eq, q⟩
    · rw [decide_eq_true rfl]
      refine iteT ⟨_, rfl, rfl, ?_⟩
      rw [decide_eq_true rfl]; exact q
    · rw [decide_eq_false hy]
      refine iteF ?_
      refine ⟨_, rfl, x, _, t, _, b, rfl, .ty "tuple", ty, k1, _, rfl, y, _, t', _, b, rfl, .ty "tuple", ty', k2, rfl, _, rfl, ?_⟩
      rw [decide_eq_true rfl]
      refine iteT ?_
      refine ⟨_, rfl, _, rfl, d, d, d1, d2, sh, sh, ?_⟩
      rw [eq]; exact q
end
end Sg

set_option Elab.async false
set_option linter.all false
set_option maxRecDepth 100000
set_option maxHeartbeats 4000000
namespace Sg
open PySem PySem.Spec PyProof.Rows L2
section
variable {P : Program} {wrl : World} {K : PySem.W.Frag} {mg : Str → Option Value} {base : Heap} {f C CN CP CS fW fB f1 f2 f3 f4 : Addr} {fd fdB fdW fd1 fd2 fd3 fd4 : FuncData}
theorem scDue : FnScope ["held", "wears", "world", "act", "block", "page", "record", "content"] ["held", "wears", "world", "act", "block", "page", "record"] (defScope sDue) := ⟨rfl, rfl, rfl, by decide +kernel, rfl, by decide +kernel, by decide +kernel⟩
abbrev s_pr : ¬ (("program" : Str) = "read") := by decide +kernel
abbrev s_er : ¬ (("erase" : Str) = "read") := by decide +kernel
abbrev s_ep : ¬ (("erase" : Str) = "program") := by decide +kernel
theorem not_ls {H : Hp} {a : Addr} {xs : List V} {ys : List Addr} (h : H a = some (.lst xs)) (hy : ∀ y ∈ ys, H y ≠ some (.lst xs)) : a ∉ ys := fun hm => hy a hm h
theorem ok_due (F : Fun K "_law_due" "_law_due" sDue f fd)
    (GN : FnOk P wrl K mg base CX0 1 f1 fd1 ["pages"] spNext) (bN : Binds K fd1 ["pages"] []) (kN : PySem.W.keepIn K (.ref f1) = true) (mN : mg "_law_next" = some (.ref f1))
    (GA : FnOk P wrl K mg base CX0 1 f2 fd2 ["held", "wears", "act", "block", "page", "content"] spApply) (bA : Binds K fd2 ["held", "wears", "act", "block", "page", "content"] []) (kA : PySem.W.keepIn K (.ref f2) = true) (mA : mg "_law_apply" = some (.ref f2)) :
    FnOk P wrl K mg base CX0 2 f fd ["held", "wears", "world", "act", "block", "page", "record"] spDue := by
  refine F.ok scDue (fun vs H Q E h => ?_) (fun cdv A outer s H vs Q E hr h => ?_)
  · obtain ⟨hd, wl, wd, act, b, g, rv, bs, ws, hs, vs0, rm, pw, w2, rfl, _⟩ := h
    rfl
  · obtain ⟨hd, wl, wd, act, b, g, rv, bs, ws, hs, vs0, rm, pw, w2, rfl, HE, hvs, hwd, nwd, hrm, hw2, hg8, k⟩ := h
    refine ⟨_, pss_cons (ps_if (pt_cmpR op_eq (pv 3) pe_str (nomark _))
        (pss_cons (ps_if (pt_not (pt_val (pe_ix ix_list (pv 2) pe_int (fun _ _ => rfl)))) (pss_one (ps_ret (pe_lst (pa_cons pe_str (pa_cons pe_str pa_nil))))) pss_nil)
        (pss_one (ps_ret (pe_ix ix_list (pe_ix ix_list (pv 0) (pv 4) (fun _ _ => rfl)) (pv 5) (fun _ _ => rfl))))) pss_nil)
      (Evl.pss_cut (ps_if (PW.pt (pw_and (pt_cmpR op_eq (pv 3) pe_str (nomark _)) (pw_and1 (pt_cmpR op_ne (pe_call GN hr (by rfl) mN kN bN .nil pass0 (pa_cons (pe_ix ix_list (pv 0) (pv 4) (fun _ _ => rfl)) pa_nil)) (pv 5) (nomark _)))))
        (pss_one (ps_ret (pe_lst (pa_cons pe_str (pa_cons pe_bl pa_nil))))) pss_nil)
      (pss_cons (ps_if (PW.pt (pw_and (pt_val (pe_ix ix_list (pv 2) pe_int (fun _ _ => rfl))) (pw_and1 (pt_cmpR op_eq (pe_ix ix_list (pv 2) pe_int (fun _ _ => rfl)) pe_int (nomark _)))))
        (pss_cons (ps_asg pe_bl (pg_sub (pv 2) pe_int set_list))
        (pss_cons (ps_asg (pe_tup (pa_cons (pv 3) (pa_cons (pv 4) (pa_cons (pv 5) (pa_cons (pv 6) pa_nil))))) (pg_sub (pv 2) pe_int set_list))
        (pss_one (ps_ret (pe_lst (pa_cons pe_str (pa_cons pe_str pa_nil))))))) pss_nil)
      (pss_cons (ps_if (pt_not (pt_val (pe_ix ix_list (pv 2) pe_int (fun _ _ => rfl)))) (pss_one (ps_ret (pe_lst (pa_cons pe_str (pa_cons pe_str pa_nil))))) pss_nil)
      (Evl.pss_cut (ps_if (pt_cmpR op_notN (pe_ix ix_list (pv 2) pe_int (fun _ _ => rfl)) pe_non (nomark _)) (pss_one (ps_asg (pe_op op_sub (pe_ix ix_list (pv 2) pe_int (fun _ _ => rfl)) pe_int) (pg_sub (pv 2) pe_int set_list))) pss_nil)
      (pss_cons (ps_set (i := 7) scDue.nd rfl (Or.inl rfl) pe_non)
      (Evl.pss_cut (ps_if (pt_cmpR op_eq (pv 3) pe_str (nomark _)) (pss_one (ps_set (i := 7) scDue.nd rfl (Or.inl rfl) (pv 6))) pss_nil)
      (pss_cons (ps_expr (pe_call GA hr (by rfl) mA kA bA .nil pass0 (pa_cons (pv 0) (pa_cons (pv 1) (pa_cons (pv 3) (pa_cons (pv 4) (pa_cons (pv 5) (pa_cons (pv 7) pa_nil))))))))
      (pss_one (ps_ret pe_non))))))))), ?_⟩
    have hjb : b < hs.length := (List.getElem?_eq_some_iff.mp hvs).1
    obtain ⟨a, ha, hrow⟩ := HE.gr.at hvs
    have hPG : PgsN H vs0 := HE.pg _ (List.mem_of_getElem? hvs)
    have ref : ∀ {w : V} {H1 : Hp}, RefS w H Q → Same H H1 → ∀ l, H1 l = Option.none → Q (.ref l) (upd H1 l (.lst [.str "refused", w])) := fun k s l hl => k l _ (s.free hl) (s.trans (same_new hl)) upd_same
    refine ⟨_, rfl, rfl, _, rfl, ?_⟩
    rcases k with ⟨rfl, k1, k2⟩ | ⟨rfl, hne, k⟩ | ⟨hact, hpn, k1, k2, k3⟩
    · rw [str_eqT]
      refine iteT ⟨_, rfl, wd, _, _, _, rfl, rfl, SqL.of hwd, atI_nat (j := 1) rfl, pw, rfl, ?_⟩
      cases pw with
      | false => exact iteT ⟨by show 2 ≤ sizeLine; decide, fun l hl => ref (k1 rfl) (Same.refl H) l hl⟩
      | true =>
        have hgl : g < (row vs0).length := by rw [row_len hPG.1]; exact hg8
        exact iteF ⟨_, rfl, _, rfl, hd, _, _, _, rfl, rfl, SqL.of HE.gr.ls, atI_nat (get_map ha), _, rfl, a, _, _, _, rfl, rfl, SqL.of hrow, atI_nat (List.getElem?_eq_getElem hgl), k2 rfl _ H (List.getElem?_eq_getElem hgl) (Same.refl H)⟩
    · rw [str_eqF s_pr]
      refine iteF ⟨fun _ _ => False, ⟨_, rfl, rfl, _, rfl, ?_⟩, fun _ _ z => z.elim⟩
      rw [str_eqT]
      refine iteT ⟨_, rfl, _, rfl, hd, _, _, _, rfl, rfl, SqL.of HE.gr.ls, atI_nat (get_map ha), a, _, rfl, hrow, hPG, _, rfl, rfl, _, rfl, ?_⟩
      rw [decide_eq_false (by intro z; cases z; exact hne rfl)]
      exact iteT ⟨by show 2 ≤ sizeLine; decide, fun l hl => ref k (Same.refl H) l hl⟩
    · have hread : ¬ act = "read" := by
        rcases hact with rfl | ⟨rfl, _⟩
        · exact s_er
        · exact s_pr
      rw [str_eqF hread]
      refine iteF ⟨fun σ' H' => σ' = [some (.ref hd), some (.ref wl), some (.ref wd), some (.str act), some (.int (b : Int)), some (.int (g : Int)), some rv, none] ∧ H' = H, ⟨_, rfl, rfl, _, rfl, ?_⟩, ?_⟩
      · rcases hact with rfl | ⟨rfl, hlen⟩
        · rw [str_eqF s_ep]
          exact iteF (iteF ⟨rfl, rfl⟩)
        · rw [str_eqT]
          refine iteT ⟨_, rfl, _, rfl, hd, _, _, _, rfl, rfl, SqL.of HE.gr.ls, atI_nat (get_map ha), a, _, rfl, hrow, hPG, _, rfl, rfl, _, rfl, ?_⟩
          rw [decide_eq_true (by rw [hlen])]
          exact iteF ⟨rfl, rfl⟩
      rintro σ' H' ⟨rfl, rfl⟩
      refine ⟨_, rfl, wd, _, _, _, rfl, rfl, SqL.of hwd, atI_nat (j := 1) rfl, pw, rfl, ?_⟩
      cases pw with
      | false =>
        refine iteF (iteF ⟨_, rfl, wd, _, _, _, rfl, rfl, SqL.of hwd, atI_nat (j := 1) rfl, false, rfl, ?_⟩)
        exact iteT ⟨by show 2 ≤ sizeLine; decide, fun l hl => ref (k1 rfl) (Same.refl _) l hl⟩
      | true =>
        have hfl : flatV rm = true := by rcases hrm with rfl | ⟨r, rfl⟩ <;> rfl
        refine iteT ⟨_, rfl, wd, _, _, _, rfl, rfl, SqL.of hwd, atI_nat (j := 0) rfl, ?_⟩
        have hw1 : H' wd = some (.lst [rm, .bl true, w2]) := hwd
        have rem : rm ≠ .int 0 → decide (rm = V.int 0) = false := fun h => decide_eq_false h
        by_cases c0 : rm = .int 0
        · subst c0
          refine ⟨rfl, _, rfl, ?_⟩
          rw [decide_eq_true rfl]
          refine iteT ?_
          refine ⟨_, rfl, wd, _, _, 1, rfl, rfl, hwd, Evl.ixN_nat (j := 1) (by show 1 < 3; decide), ?_⟩
          refine ⟨_, rfl, _, rfl, _, rfl, _, rfl, by show 4 ≤ sizeLine; decide, fun t ht => ?_⟩
          have ntw : t ≠ wd := fun e => by rw [e, upd_same] at ht; cases ht
          have htH : H' t = Option.none := by rw [upd_ne ntw] at ht; exact ht
          refine ⟨_, rfl, wd, _, _, 2, rfl, rfl, (by rw [upd_ne ntw.symm]; exact upd_same), Evl.ixN_nat (j := 2) (by show 2 < 3; decide), ?_⟩
          refine ⟨by show 2 ≤ sizeLine; decide, fun l hl => ?_⟩
          have nlw : l ≠ wd := fun e => by rw [e, upd_same] at hl; cases hl
          have nlt : l ≠ t := fun e => by rw [e, upd_ne ntw, upd_same] at hl; cases hl
          have hlH : H' l = Option.none := by rw [upd_ne nlw, upd_ne nlt, upd_ne nlw] at hl; exact hl
          refine k2 rfl rfl t l _ htH ?_ ?_ (fun x o hx hn => ?_) (fun x xs hx => ?_) hlH upd_same
          · rw [upd_ne nlt.symm, upd_ne ntw, upd_same]
          · rw [upd_ne nlw.symm, upd_same]; rfl
          · have e1 : x ≠ wd := by simpa using hn
            rw [upd_ne (ne_of_none hx hlH), upd_ne e1, upd_ne (ne_of_none hx htH), upd_ne e1]; exact hx
          · have e1 : x ≠ wd := ne_of hx hwd (by intro z; cases z)
            rw [upd_ne (ne_of_none hx hlH), upd_ne e1, upd_ne (ne_of_none hx htH), upd_ne e1]; exact hx
        · refine ⟨?_, _, rfl, ?_⟩
          · rcases hrm with rfl | ⟨r, rfl⟩ <;> rfl
          rw [rem c0]
          refine iteF ⟨_, rfl, wd, _, _, _, rfl, rfl, SqL.of hwd, atI_nat (j := 1) rfl, true, rfl, iteF ?_⟩
          refine ⟨fun σ' H1 => σ' = [some (.ref hd), some (.ref wl), some (.ref wd), some (.str act), some (.int (b : Int)), some (.int (g : Int)), some rv, none] ∧ H1 wd = some (.lst [remAfter rm, .bl true, w2]) ∧ Off [wd] H' H1 ∧ Tups H' H1,
            ⟨_, rfl, wd, _, _, _, rfl, rfl, SqL.of hwd, atI_nat (j := 0) rfl, rfl, _, rfl, ?_⟩, ?_⟩
          · rcases hrm with rfl | ⟨r, rfl⟩
            · rw [decide_eq_true rfl]
              exact iteF ⟨rfl, hwd, fun x o hx _ => hx, fun t xs h => h⟩
            · rw [decide_eq_false (by intro z; cases z)]
              refine iteT ⟨_, rfl, wd, _, _, _, rfl, rfl, SqL.of hwd, atI_nat (j := 0) rfl, _, _, rfl, rfl, _, rfl, wd, _, _, 0, rfl, rfl, hwd, Evl.ixN_nat (j := 0) (by show 0 < 3; decide), rfl, upd_same, fun x o hx hn => ?_, Tups.lst hwd⟩
              rw [upd_ne (by simpa using hn)]; exact hx
          rintro σ' H1 ⟨rfl, h1, o1, t1⟩
          refine ⟨fun σ' H2 => σ' = [some (.ref hd), some (.ref wl), some (.ref wd), some (.str act), some (.int (b : Int)), some (.int (g : Int)), some rv, some (recV act rv)] ∧ H2 = H1, ⟨_, rfl, rfl, _, rfl, ?_⟩, ?_⟩
          · by_cases ca : act = "program"
            · subst ca
              have er : recV "program" rv = rv := if_pos rfl
              rw [str_eqT, er]
              refine iteT ?_
              exact ⟨_, rfl, rfl, rfl⟩
            · have er : recV act rv = .non := if_neg ca
              rw [str_eqF ca, er]
              refine iteF ?_
              exact ⟨rfl, rfl⟩
          rintro σ' H2 ⟨rfl, rfl⟩
          have HE1 := HE.off o1 t1 (fun x hx hm => by rw [List.mem_singleton.mp hm] at hx; exact nwd hx)
          refine ⟨_, rfl, _, rfl, _, rfl, _, rfl, _, rfl, _, rfl, hd, wl, act, b, .int (g : Int), recV act rv, bs, ws, hs, rfl, HE1, hjb, ?_⟩
          exact k3 rfl c0 H2 h1 o1 t1
theorem scCutL : FnScope ["held", "wears", "world", "choice", "act", "block", "page", "record", "content"] ["held", "wears", "world", "choice"] (defScope sCutL) := ⟨rfl, rfl, rfl, by decide +kernel, rfl, by decide +kernel, by decide +kernel⟩
theorem in012 {ch : Int} : inV (.int ch) [.int 0, .int 1, .int 2] = decide (0 ≤ ch ∧ ch ≤ 2) := by
  have e : ∀ i : Int, eqV (.int i) (.int ch) = decide (i = ch) := fun i => rfl
  unfold inV
  rw [List.any_cons, List.any_cons, List.any_cons, List.any_nil, e, e, e, Bool.or_false]
  rw [Bool.eq_iff_iff]
  simp only [Bool.or_eq_true, decide_eq_true_eq]
  omega
theorem ok_cutL (F : Fun K "_law_cut" "_law_cut" sCutL f fd)
    (GA : FnOk P wrl K mg base CX0 1 f2 fd2 ["held", "wears", "act", "block", "page", "content"] spApply) (bA : Binds K fd2 ["held", "wears", "act", "block", "page", "content"] []) (kA : PySem.W.keepIn K (.ref f2) = true) (mA : mg "_law_apply" = some (.ref f2)) :
    FnOk P wrl K mg base CX0 2 f fd ["held", "wears", "world", "choice"] spCutL := by
  refine F.ok scCutL (fun vs H Q E h => ?_) (fun cdv A outer s H vs Q E hr h => ?_)
  · obtain ⟨hd, wl, wd, ch, bs, ws, hs, rm, pw, w2, rfl, _⟩ := h
    rfl
  · obtain ⟨hd, wl, wd, ch, bs, ws, hs, rm, pw, w2, rfl, HE, hwd, nwd, k⟩ := h
    refine ⟨_, pss_cons (ps_if (pt_cmpR op_notIn_seq (pv 3) (pe_tup (pa_cons pe_int (pa_cons pe_int (pa_cons pe_int pa_nil)))) (by rfl)) (pss_one (ps_ret (pe_lst (pa_cons pe_str (pa_cons pe_bl pa_nil))))) pss_nil)
      (pss_cons (ps_if (PW.pt (pw_and (pt_cmpR op_notN (pe_ix ix_list (pv 2) pe_int (fun _ _ => rfl)) pe_non (nomark _)) (pw_and1 (pt_cmpR op_gt (pv 3) pe_int (nomark _)))))
        (pss_cons (ps_asg (pe_ix ix_list (pv 2) pe_int (fun _ _ => rfl)) (pg_tup (by rfl) (pgs_cons (pg_name (i := 4) scCutL.nd rfl (Or.inl rfl)) (pgs_cons (pg_name (i := 5) scCutL.nd rfl (Or.inl rfl)) (pgs_cons (pg_name (i := 6) scCutL.nd rfl (Or.inl rfl)) (pgs_cons (pg_name (i := 7) scCutL.nd rfl (Or.inl rfl)) L2.pgs_nil))))))
        (pss_cons (ps_set (i := 8) scCutL.nd rfl (Or.inl rfl) pe_str)
        (Evl.pss_cut (ps_if (pt_cmpR op_eq (pv 3) pe_int (nomark _))
          (pss_cons (ps_set (i := 8) scCutL.nd rfl (Or.inl rfl) pe_non) (pss_one (ps_if (pt_cmpR op_eq (pv 4) pe_str (nomark _)) (pss_one (ps_set (i := 8) scCutL.nd rfl (Or.inl rfl) (pv 7))) pss_nil))) pss_nil)
        (pss_one (ps_expr (pe_call GA hr (by rfl) mA kA bA .nil pass0 (pa_cons (pv 0) (pa_cons (pv 1) (pa_cons (pv 4) (pa_cons (pv 5) (pa_cons (pv 6) (pa_cons (pv 8) pa_nil)))))))))))) pss_nil)
      (pss_cons (ps_asg pe_non (pg_sub (pv 2) pe_int set_list)) (pss_cons (ps_asg pe_bl (pg_sub (pv 2) pe_int set_list)) (pss_cons (ps_asg pe_non (pg_sub (pv 2) pe_int set_list)) (pss_one (ps_ret pe_non)))))), ?_⟩
    refine ⟨_, rfl, by show 3 ≤ sizeLine; decide, fun tt htt => ?_⟩
    have s1 := same_new (o := .tup [.int 0, .int 1, .int 2]) htt
    refine ⟨tt, _, rfl, .inr (SqT.of upd_same), rfl, rfl, _, rfl, ?_⟩
    have ein := in012 (ch := ch)
    have hw1 := s1 _ _ hwd
    have HE1 := HE.same s1
    have fin : ∀ (H1 : Hp) (x y z : V) (r8 : L2.St), H1 wd = some (.lst [x, y, z]) → (∀ H', H' wd = some (.lst [.non, .bl true, .non]) → Off [wd] H1 H' → Tups H1 H' → Q .non H') →
        Q .non (upd (upd (upd H1 wd (.lst [.non, y, z])) wd (.lst [.non, .bl true, z])) wd (.lst [.non, .bl true, .non])) := by
      intro H1 x y z r8 h1 kk
      rw [upd_upd, upd_upd]
      refine kk _ upd_same (fun x o hx hn => ?_) (Tups.lst h1)
      rw [upd_ne (by simpa using hn)]; exact hx
    by_cases hc : 0 ≤ ch ∧ ch ≤ 2
    · rw [decide_eq_true hc] at ein
      rw [ein]
      refine iteF ?_
      rcases k with ⟨hn, _⟩ | ⟨_, _, hit, hz, k⟩ | ⟨h0, _, t, act, b, g, rv, rfl, ht, hb, k⟩
      · exact absurd hc hn
      · refine ⟨_, rfl, wd, _, _, _, rfl, rfl, SqL.of hw1, atI_nat (j := 2) rfl, rfl, _, rfl, ?_⟩
        have k' : ∀ H', H' wd = some (.lst [.non, .bl true, .non]) → Off [wd] (upd H tt (.tup [.int 0, .int 1, .int 2])) H' → Tups (upd H tt (.tup [.int 0, .int 1, .int 2])) H' → Q .non H' := fun H' e o t => k H' e (fun x ob hx hn => o x ob (s1 _ _ hx) hn) ((same_tups s1).trans t)
        refine ite2 (fun c1 => ?_) (fun c1 => ?_)
        · have hch : ch = 0 := hz.resolve_left fun e => by rw [e] at c1; exact Bool.noConfusion c1
          subst hch
          refine ⟨_, rfl, _, _, rfl, rfl, _, rfl, iteF ?_⟩
          refine ⟨_, rfl, wd, _, _, 0, rfl, rfl, hw1, Evl.ixN_nat (j := 0) (by show 0 < 3; decide), ?_⟩
          refine ⟨_, rfl, wd, _, _, 1, rfl, rfl, upd_same, Evl.ixN_nat (j := 1) (by show 1 < 3; decide), ?_⟩
          refine ⟨_, rfl, wd, _, _, 2, rfl, rfl, upd_same, Evl.ixN_nat (j := 2) (by show 2 < 3; decide), ?_⟩
          exact fin _ _ _ _ [] hw1 k'
        · refine iteF ?_
          refine ⟨_, rfl, wd, _, _, 0, rfl, rfl, hw1, Evl.ixN_nat (j := 0) (by show 0 < 3; decide), ?_⟩
          refine ⟨_, rfl, wd, _, _, 1, rfl, rfl, upd_same, Evl.ixN_nat (j := 1) (by show 1 < 3; decide), ?_⟩
          refine ⟨_, rfl, wd, _, _, 2, rfl, rfl, upd_same, Evl.ixN_nat (j := 2) (by show 2 < 3; decide), ?_⟩
          exact fin _ _ _ _ [] hw1 k'
      · refine ⟨_, rfl, wd, _, _, _, rfl, rfl, SqL.of hw1, atI_nat (j := 2) rfl, rfl, _, rfl, ?_⟩
        rw [decide_eq_false (by intro z; cases z)]
        refine iteT ⟨_, rfl, _, _, rfl, rfl, _, rfl, ?_⟩
        rw [decide_eq_true h0]
        refine iteT ?_
        refine ⟨_, rfl, wd, _, _, _, rfl, rfl, SqL.of hw1, atI_nat (j := 2) rfl, t, _, rfl, SqT.of (s1 _ _ ht), rfl, _, _, rfl, _, _, rfl, _, _, rfl, _, _, rfl, rfl, ?_⟩
        refine ⟨fun σ' H1 => σ' = [some (.ref hd), some (.ref wl), some (.ref wd), some (.int ch), some (.str act), some (.int (b : Int)), some (.int (g : Int)), some rv, some (cutV' ch (recV act rv))] ∧ H1 = upd H tt (.tup [.int 0, .int 1, .int 2]), ⟨_, rfl, rfl, _, rfl, ?_⟩, ?_⟩
        · by_cases c1 : ch = 1
          · subst c1
            have e1 : cutV' 1 (recV act rv) = recV act rv := if_pos rfl
            rw [decide_eq_true rfl, e1]
            refine iteT ⟨_, rfl, rfl, _, rfl, ?_⟩
            by_cases ca : act = "program"
            · subst ca
              have er : recV "program" rv = rv := if_pos rfl
              rw [str_eqT, er]
              refine iteT ?_
              exact ⟨_, rfl, rfl, rfl⟩
            · have er : recV act rv = .non := if_neg ca
              rw [str_eqF ca, er]
              refine iteF ?_
              exact ⟨rfl, rfl⟩
          · have e1 : cutV' ch (recV act rv) = .str "torn" := if_neg c1
            rw [decide_eq_false (by intro z; cases z; exact c1 rfl), e1]
            refine iteF ?_
            exact ⟨rfl, rfl⟩
        rintro σ' H1 ⟨rfl, rfl⟩
        have k1 : HApp (upd H tt (.tup [.int 0, .int 1, .int 2])) hd wl bs ws hs b act (.int (g : Int)) (cutV' ch (recV act rv)) (fun H1 => ∀ H', H' wd = some (.lst [.non, .bl true, .non]) → Off [wd] H1 H' → Tups H1 H' → Q .non H') := by
          rcases k with ⟨e1, vs, e2, e3, e4, e5, k⟩ | ⟨e1, e2, k⟩
          · exact .inl ⟨e1, vs, e2, e3, e4, e5.mono (same_tups s1), fun H' x o t => k H' x (fun y ob hy hn => o y ob (s1 _ _ hy) hn) ((same_tups s1).trans t)⟩
          · exact .inr ⟨e1, e2.imp id (fun z => z.mono (same_tups s1)), fun q H' wv hq hw x o t => k q H' wv (s1.free hq) hw x (fun y ob hy hn => o y ob (s1 _ _ hy) hn) ((same_tups s1).trans t)⟩
        refine ⟨_, rfl, _, rfl, _, rfl, _, rfl, _, rfl, _, rfl, hd, wl, act, b, .int (g : Int), cutV' ch (recV act rv), bs, ws, hs, rfl, HE1, hb, ?_⟩
        refine k1.imp fun H2 o2 t2 kk => ?_
        have hw2 := o2 _ _ hw1 nwd
        refine ⟨_, rfl, wd, _, _, 0, rfl, rfl, hw2, Evl.ixN_nat (j := 0) (by show 0 < 3; decide), ?_⟩
        refine ⟨_, rfl, wd, _, _, 1, rfl, rfl, upd_same, Evl.ixN_nat (j := 1) (by show 1 < 3; decide), ?_⟩
        refine ⟨_, rfl, wd, _, _, 2, rfl, rfl, upd_same, Evl.ixN_nat (j := 2) (by show 2 < 3; decide), ?_⟩
        exact fin _ _ _ _ [] hw2 kk
    · rw [decide_eq_false hc] at ein
      rw [ein]
      refine iteT ?_
      rcases k with ⟨hn, k⟩ | ⟨h1, h2, _⟩ | ⟨h1, h2, _⟩
      · exact ⟨by show 2 ≤ sizeLine; decide, fun l hl => k l _ (s1.free hl) (s1.trans (same_new hl)) upd_same⟩
      · exact absurd ⟨h1, h2⟩ hc
      · exact absurd ⟨by omega, h2⟩ hc
end
end Sg

set_option Elab.async false
set_option linter.all false
set_option maxRecDepth 100000
set_option maxHeartbeats 4000000
namespace Sg
open PySem PySem.Spec PyProof.Rows L2
/-- pages that are equal -/
def PP (H : Hp) (x y : V) : Prop := (x = .str "torn" ∧ y = .str "torn") ∨ ∃ t t' xs, x = .ref t ∧ y = .ref t' ∧ H t = some (.tup xs) ∧ H t' = some (.tup xs) ∧ xs.all flatC = true
theorem PP.mono {H H' : Hp} {x y : V} (h : PP H x y) (s : Tups H H') : PP H' x y := by
  rcases h with h | ⟨t, t', xs, a, b, c, d, e⟩
  · exact .inl h
  · exact .inr ⟨t, t', xs, a, b, s _ _ c, s _ _ d, e⟩
theorem PP.left {H : Hp} {x y : V} (h : PP H x y) : PgN H x := by
  rcases h with ⟨rfl, _⟩ | ⟨t, t', xs, rfl, _, c, _, e⟩
  · exact .inl rfl
  · exact .inr ⟨t, xs, rfl, c, e⟩
theorem PP.right {H : Hp} {x y : V} (h : PP H x y) : PgN H y := by
  rcases h with ⟨_, rfl⟩ | ⟨t, t', xs, _, rfl, _, d, e⟩
  · exact .inl rfl
  · exact .inr ⟨t', xs, rfl, d, e⟩
theorem PP.dp {K : PySem.W.Frag} {H : Hp} {x y : V} (h : PP H x y) : ∃ d, Dp K H x d ∧ Dp K H y d ∧ d.canLay0 = true ∧ d.depth ≤ 1 ∧ ∃ t b, TyX K H x t ∧ TyX K H y t ∧ PySem.W.kitOne K t (.type "tuple") = some b := by
  rcases h with ⟨rfl, rfl⟩ | ⟨t, t', xs, rfl, rfl, h1, h2, hx⟩
  · exact ⟨.str "torn", .str _, .str _, by simp only [PyData.canLay0]; decide +kernel, by simp [PyData.depth], _, false, .base (.str _), .base (.str _), kit_ty (by decide +kernel)⟩
  · obtain ⟨a1, a2, a3⟩ := flats_dp (K := K) (H := H) hx
    exact ⟨.tuple (xs.map dFlat), .tup (SqT.of h1) a1, .tup (SqT.of h2) a1, by simpa [PyData.canLay0] using a2, by simp [PyData.depth, a3], _, true, .base (.tup h1), .base (.tup h2), kit_ty (by decide +kernel)⟩
inductive RowR (H : Hp) : List V → List V → Prop
  | nil : RowR H [] []
  | cons {x y : V} {vs us : List V} : PP H x y → RowR H vs us → RowR H (x :: vs) (y :: us)
theorem RowR.mono {H H' : Hp} {vs us : List V} (h : RowR H vs us) (s : Tups H H') : RowR H' vs us := by
  induction h with
  | nil => exact .nil
  | cons a _ ih => exact .cons (a.mono s) ih
theorem RowR.len {H : Hp} {vs us : List V} (h : RowR H vs us) : vs.length = us.length := by
  induction h with
  | nil => rfl
  | cons _ _ ih => rw [List.length_cons, List.length_cons, ih]
theorem RowR.snoc {H : Hp} {vs us : List V} {x y : V} (h : RowR H vs us) (p : PP H x y) : RowR H (vs ++ [x]) (us ++ [y]) := by
  induction h with
  | nil => exact .cons p .nil
  | cons a _ ih => exact .cons a ih
theorem RowR.rep {H : Hp} {x y : V} (p : PP H x y) : ∀ n, RowR H (List.replicate n x) (List.replicate n y)
  | 0 => .nil
  | n + 1 => .cons p (RowR.rep p n)
theorem RowR.get {H : Hp} {vs us : List V} (h : RowR H vs us) : ∀ {i : Nat} {x : V}, vs[i]? = some x → ∃ y, us[i]? = some y ∧ PP H x y := by
  induction h with
  | nil => intro i x e; simp at e
  | cons a _ ih =>
    intro i x e
    cases i with
    | zero => exact ⟨_, rfl, by simp at e; subst e; exact a⟩
    | succ i => obtain ⟨y, e1, e2⟩ := ih (i := i) (x := x) (by simpa using e); exact ⟨y, by simpa using e1, e2⟩
theorem RowR.row_get {H : Hp} {vs us : List V} (h : RowR H vs us) {i : Nat} {x : V} (e : (row vs)[i]? = some x) : ∃ y, (row us)[i]? = some y ∧ ((x = .non ∧ y = .non) ∨ PP H x y) := by
  by_cases c : i < vs.length
  · have ex : vs[i]? = some x := by
      unfold row at e
      rwa [List.getElem?_append_left c] at e
    obtain ⟨y, e1, e2⟩ := h.get ex
    exact ⟨y, Sg.row_get e1, .inr e2⟩
  · have hl := h.len
    unfold row at e ⊢
    rw [List.getElem?_append_right (by omega), List.getElem?_replicate] at e
    rw [List.getElem?_append_right (by omega), List.getElem?_replicate, ← hl]
    split at e
    · cases e
      rename_i h8
      exact ⟨_, if_pos h8, .inl ⟨rfl, rfl⟩⟩
    · cases e
theorem RowR.dp {K : PySem.W.Frag} {H : Hp} {vs us : List V} (h : RowR H vs us) : ∃ ds, DpAll K H vs ds ∧ DpAll K H us ds ∧ PyData.canLayAll0 ds = true ∧ PyData.depthAll ds ≤ 1 := by
  induction h with
  | nil => exact ⟨[], .nil, .nil, by simp [PyData.canLayAll0], by simp [PyData.depthAll]⟩
  | cons a _ ih =>
    obtain ⟨d, a1, a2, a3, a4, _⟩ := a.dp (K := K)
    obtain ⟨ds, b1, b2, b3, b4⟩ := ih
    refine ⟨d :: ds, .cons a1 b1, .cons a2 b2, by simp [PyData.canLayAll0, a3, b3], ?_⟩
    simp only [PyData.depthAll]; omega
theorem RowR.row_dp {K : PySem.W.Frag} {H : Hp} {vs us : List V} (h : RowR H vs us) : ∃ ds, DpAll K H (row vs) ds ∧ DpAll K H (row us) ds ∧ PyData.canLayAll0 ds = true ∧ PyData.depthAll ds ≤ 1 := by
  obtain ⟨ds, a1, a2, a3, a4⟩ := h.dp (K := K)
  obtain ⟨b1, b2, b3, _⟩ := nons_dp (K := K) (H := H) (8 - vs.length)
  have hl := h.len
  refine ⟨ds ++ List.replicate (8 - vs.length) .none, dpAll_append a1 b1, ?_, canLay_append a3 b2, depth_append a4 (by omega)⟩
  unfold row
  rw [← hl]
  exact dpAll_append a2 b1
inductive GrR (H : Hp) : List (List V) → List (List V) → Prop
  | nil : GrR H [] []
  | cons {vs us : List V} {ps hs : List (List V)} : RowR H vs us → GrR H ps hs → GrR H (vs :: ps) (us :: hs)
theorem GrR.mono {H H' : Hp} {ps hs : List (List V)} (h : GrR H ps hs) (s : Tups H H') : GrR H' ps hs := by
  induction h with
  | nil => exact .nil
  | cons a _ ih => exact .cons (a.mono s) ih
theorem GrR.len {H : Hp} {ps hs : List (List V)} (h : GrR H ps hs) : ps.length = hs.length := by
  induction h with
  | nil => rfl
  | cons _ _ ih => rw [List.length_cons, List.length_cons, ih]
theorem GrR.get {H : Hp} {ps hs : List (List V)} (h : GrR H ps hs) : ∀ {i : Nat} {us : List V}, hs[i]? = some us → ∃ vs, ps[i]? = some vs ∧ RowR H vs us := by
  induction h with
  | nil => intro i x e; simp at e
  | cons a _ ih =>
    intro i x e
    cases i with
    | zero => exact ⟨_, rfl, by simp at e; subst e; exact a⟩
    | succ i => obtain ⟨y, e1, e2⟩ := ih (i := i) (us := x) (by simpa using e); exact ⟨y, by simpa using e1, e2⟩
theorem GrR.set {H : Hp} {ps hs : List (List V)} (h : GrR H ps hs) {vs us : List V} (r : RowR H vs us) : ∀ b : Nat, GrR H (ps.set b vs) (hs.set b us) := by
  induction h with
  | nil => intro b; exact .nil
  | cons a t ih =>
    intro b
    cases b with
    | zero => exact .cons r t
    | succ b => exact .cons a (ih b)
theorem GrR.reps {H : Hp} : ∀ n, GrR H (List.replicate n []) (List.replicate n [])
  | 0 => .nil
  | n + 1 => .cons .nil (GrR.reps n)
theorem img2s {K : PySem.W.Frag} {H : Hp} {ps hs : List (List V)} (h : GrR H ps hs) : ∀ {ws : List Int}, ws.length = ps.length → ∃ ds, PyData.canLayAll0 ds = true ∧ PyData.depthAll ds ≤ 3 ∧ ∀ qs, (qs = ps ∨ qs = hs) → ∀ tr : List Addr, tr.length = qs.length →
    (∀ (i : Nat) (t : Addr), tr[i]? = some t → ∃ (wv : Int) (c : Addr) (vs : List V), ws[i]? = some wv ∧ qs[i]? = some vs ∧ H t = some (.tup [.int wv, .ref c]) ∧ H c = some (.lst (row vs))) → DpAll K H (tr.map V.ref) ds := by
  induction h with
  | nil =>
    intro ws hl
    refine ⟨[], by simp [PyData.canLayAll0], by simp [PyData.depthAll], fun qs hq tr h1 h2 => ?_⟩
    have hq : qs = [] := by rcases hq with h | h <;> exact h
    subst hq
    cases tr with
    | nil => exact .nil
    | cons t tr => simp at h1
  | @cons vs us ps hs a t ih =>
    intro ws hl
    cases ws with
    | nil => simp at hl
    | cons wv ws =>
      obtain ⟨rd, r1, r2, r3, r4⟩ := a.row_dp (K := K)
      obtain ⟨ds, d1, d2, k⟩ := ih (ws := ws) (by simpa using hl)
      refine ⟨.tuple [.int wv, .list rd] :: ds, ?_, ?_, fun qs hq tr h1 h2 => ?_⟩
      · simp [PyData.canLayAll0, PyData.canLay0, r3, d1]
      · simp only [PyData.depthAll, PyData.depth]; omega
      · obtain ⟨q0, qs', e0, hr0, hq'⟩ : ∃ q0 qs', qs = q0 :: qs' ∧ DpAll K H (row q0) rd ∧ (qs' = ps ∨ qs' = hs) := by
          rcases hq with rfl | rfl
          · exact ⟨_, _, rfl, r1, .inl rfl⟩
          · exact ⟨_, _, rfl, r2, .inr rfl⟩
        subst e0
        cases tr with
        | nil => simp at h1
        | cons t tr =>
          obtain ⟨wv', c, vs', e1, e2, h3, h4⟩ := h2 0 t rfl
          have e1' : wv = wv' := by simpa using e1
          have e2' : q0 = vs' := by simpa using e2
          subst e1' e2'
          refine .cons (.tup (SqT.of h3) (.cons (.int _) (.cons (.lst (SqL.of h4) hr0) .nil))) (k qs' hq' tr (by simpa using h1) fun i t ht => ?_)
          obtain ⟨w2, c2, v2, f1, f2, f3, f4⟩ := h2 (i + 1) t (by simpa using ht)
          exact ⟨w2, c2, v2, by simpa using f1, by simpa using f2, f3, f4⟩
theorem img2 {K : PySem.W.Frag} {H : Hp} {ps hs : List (List V)} {ws : List Int} (h : GrR H ps hs) (hl : ws.length = ps.length) : ∃ d, SeqAt.shaped d = true ∧ PyData.eqv d d = true ∧ (∀ r, ImgAt H r ws ps → Dp K H (.ref r) d) ∧ (∀ r, ImgAt H r ws hs → Dp K H (.ref r) d) := by
  obtain ⟨ds, a, b, k⟩ := img2s (K := K) h hl
  have sh := shaped_list a (by omega)
  exact ⟨.list ds, sh, SeqAt.eqv_refl _ (SeqAt.canLay_of_shaped sh), fun r ⟨tr, h1, h2, h3⟩ => .lst (SqL.of h1) (k _ (.inl rfl) tr h2 h3), fun r ⟨tr, h1, h2, h3⟩ => .lst (SqL.of h1) (k _ (.inr rfl) tr h2 h3)⟩
/-- the operation that a cut decides on -/
def Pend (H : Hp) (ps : List (List V)) (pw : Bool) (it w2 : V) : Prop := (it = .non ∧ w2 = .non) ∨
  (pw = false ∧ ∃ (t t' : Addr) (act : Str) (b g : Nat) (rf rh : V), it = .ref t ∧ w2 = .ref t' ∧ H t' = some (.tup [.str act, .int (b : Int), .int (g : Int), rh]) ∧ b < ps.length ∧
    ((act = "erase" ∧ H t = some (.tup [.int (b : Int), .non, .non])) ∨ (act = "program" ∧ H t = some (.tup [.int (b : Int), .int (g : Int), rf]) ∧ PP H rf rh ∧ g < 8 ∧ ∃ vs, ps[b]? = some vs ∧ vs.length = g)))
theorem Pend.mono {H H' : Hp} {ps : List (List V)} {pw : Bool} {it w2 : V} (h : Pend H ps pw it w2) (s : Tups H H') : Pend H' ps pw it w2 := by
  rcases h with h | ⟨h0, t, t', act, b, g, rf, rh, h1, h2, h3, h4, h5⟩
  · exact .inl h
  · refine .inr ⟨h0, t, t', act, b, g, rf, rh, h1, h2, s _ _ h3, h4, ?_⟩
    rcases h5 with ⟨e1, e2⟩ | ⟨e1, e2, e3, e4⟩
    · exact .inl ⟨e1, s _ _ e2⟩
    · exact .inr ⟨e1, s _ _ e2, e3.mono s, e4⟩
/-- what holds between the law's operations -/
structure LJ (C : Addr) (H : Hp) (tp p hd wl wd w c : Addr) (ts : List Int) (as bs : List Addr) (ws : List Int) (ps hs : List (List V)) (pw : Bool) (rm it w2 : V) : Prop where
  tape : H tp = some (.lst (ts.map V.int))
  fl : FlashAt C H p w c as ws ps pw rm it
  he : Held H hd wl bs ws hs
  wo : H wd = some (.lst [rm, .bl pw, w2])
  rel : GrR H ps hs
  rmo : rm = .non ∨ ∃ r, rm = .int r
  pe : Pend H ps pw it w2
  l8 : ps.length = 8
  d1 : tp ∉ (p :: w :: c :: as)
  d2 : tp ∉ (wl :: hd :: bs)
  d3 : ∀ x ∈ (p :: w :: c :: as), x ∉ (wl :: hd :: bs)
  d4 : wd ∉ (p :: w :: c :: as)
  d5 : wd ∉ (wl :: hd :: bs)
  d6 : tp ≠ wd
theorem LJ.same {C : Addr} {H H' : Hp} {tp p hd wl wd w c : Addr} {ts : List Int} {as bs : List Addr} {ws : List Int} {ps hs : List (List V)} {pw : Bool} {rm it w2 : V} (h : LJ C H tp p hd wl wd w c ts as bs ws ps hs pw rm it w2) (s : Same H H') : LJ C H' tp p hd wl wd w c ts as bs ws ps hs pw rm it w2 := by
  obtain ⟨dx, hob⟩ := h.fl.ob
  have hf : FlashAt C H' p w c as ws ps pw rm it := ⟨⟨dx, s _ _ hob⟩, s _ _ h.fl.wl, h.fl.gr.same s, h.fl.lw, h.fl.pg.mono (same_tups s), h.fl.nwc, h.fl.nwa⟩
  exact ⟨s _ _ h.tape, hf, h.he.same s, s _ _ h.wo, h.rel.mono (same_tups s), h.rmo, h.pe.mono (same_tups s), h.l8, h.d1, h.d2, h.d3, h.d4, h.d5, h.d6⟩
theorem FlashAt.same {C : Addr} {H H' : Hp} {p w c : Addr} {as : List Addr} {ws : List Int} {ps : List (List V)} {pw : Bool} {rm it : V} (F : FlashAt C H p w c as ws ps pw rm it) (s : Same H H') : FlashAt C H' p w c as ws ps pw rm it := by
  obtain ⟨dx, h⟩ := F.ob
  exact ⟨⟨dx, s _ _ h⟩, s _ _ F.wl, F.gr.same s, F.lw, F.pg.mono (same_tups s), F.nwc, F.nwa⟩
theorem FlashAt.off {C : Addr} {H H' : Hp} {p w c : Addr} {as : List Addr} {ws : List Int} {ps : List (List V)} {pw : Bool} {rm it : V} {xs : List Addr} (F : FlashAt C H p w c as ws ps pw rm it) (o : Off xs H H') (t : Tups H H') (d : ∀ x ∈ (p :: w :: c :: as), x ∉ xs) : FlashAt C H' p w c as ws ps pw rm it := by
  obtain ⟨dx, h⟩ := F.ob
  refine ⟨⟨dx, o _ _ h (d _ List.mem_cons_self)⟩, o _ _ F.wl (d _ (List.mem_cons_of_mem _ List.mem_cons_self)), ?_, F.lw, F.pg.mono t, F.nwc, F.nwa⟩
  exact F.gr.keep (fun ob hx => o _ _ hx (d _ (List.mem_cons_of_mem _ (List.mem_cons_of_mem _ List.mem_cons_self)))) fun a ha ob hx => o _ _ hx (d _ (List.mem_cons_of_mem _ (List.mem_cons_of_mem _ (List.mem_cons_of_mem _ ha))))
theorem Grid.there {H : Hp} {c : Addr} {as : List Addr} {ps : List (List V)} (g : Grid H c as ps) {a : Addr} (h : a ∈ as) : ∃ o, H a = some o := by
  obtain ⟨j, hj⟩ := List.getElem?_of_mem h
  have hjl : j < ps.length := by rw [← g.len]; exact (List.getElem?_eq_some_iff.mp hj).1
  exact ⟨_, g.rows j a _ hj (List.getElem?_eq_getElem hjl)⟩
theorem Held.there {H : Hp} {hd wl : Addr} {bs : List Addr} {ws : List Int} {ps : List (List V)} (F : Held H hd wl bs ws ps) {x : Addr} (h : x ∈ (wl :: hd :: bs)) : ∃ o, H x = some o := by
  rcases List.mem_cons.mp h with rfl | h
  · exact ⟨_, F.wr⟩
  rcases List.mem_cons.mp h with rfl | h
  · exact ⟨_, F.gr.ls⟩
  · exact F.gr.there h
theorem FlashAt.there {C : Addr} {H : Hp} {p w c : Addr} {as : List Addr} {ws : List Int} {ps : List (List V)} {pw : Bool} {rm it : V} (F : FlashAt C H p w c as ws ps pw rm it) {x : Addr} (h : x ∈ (p :: w :: c :: as)) : ∃ o, H x = some o := by
  rcases List.mem_cons.mp h with rfl | h
  · obtain ⟨dx, h⟩ := F.ob; exact ⟨_, h⟩
  rcases List.mem_cons.mp h with rfl | h
  · exact ⟨_, F.wl⟩
  rcases List.mem_cons.mp h with rfl | h
  · exact ⟨_, F.gr.ls⟩
  · exact F.gr.there h
theorem not_of_free {H : Hp} {xs : List Addr} {q : Addr} (hq : H q = Option.none) (h : ∀ x ∈ xs, ∃ o, H x = some o) : q ∉ xs := fun hm => by
  obtain ⟨o, e⟩ := h q hm
  rw [hq] at e; cases e
theorem mem_set_of {xs : List Addr} {j : Nat} {q x : Addr} (h : x ∈ xs.set j q) : x = q ∨ x ∈ xs := by
  rcases List.mem_or_eq_of_mem_set h with h | h
  · exact .inr h
  · exact .inl h
end Sg

set_option Elab.async false
set_option linter.all false
set_option maxRecDepth 100000
set_option maxHeartbeats 4000000
namespace Sg
open PySem PySem.Spec PyProof.Rows L2
def spLaw (K : PySem.W.Frag) : Sp := fun vs H Q _ => ∃ (a : Addr) (ns : List Int), vs = [.ref a] ∧ SqL K H a (ns.map V.int) ∧ ns.length ≤ 63 ∧ ∀ H', Q (.bl true) H'
theorem LJ.step {C : Addr} {H H1 H2 : Hp} {tp p hd wl wd w c : Addr} {ts : List Int} {as as' bs bs' : List Addr} {ws ws' : List Int} {ps hs ps' hs' : List (List V)} {pw pw' : Bool} {rm it w2 rm' it' w2' : V} (h : LJ C H tp p hd wl wd w c ts as bs ws ps hs pw rm it w2)
    (e1 : Held H1 hd wl bs' ws' hs') (o1 : Off (wd :: wl :: hd :: bs) H H1) (t1 : Tups H H1) (hw : H1 wd = some (.lst [rm', .bl pw', w2'])) (nb : ∀ x ∈ bs', x ∈ bs ∨ H x = Option.none)
    (e2 : FlashAt C H2 p w c as' ws' ps' pw' rm' it') (o2 : Off (p :: w :: c :: as) H1 H2) (t2 : Tups H1 H2) (na : ∀ x ∈ as', x ∈ as ∨ H1 x = Option.none)
    (r : GrR H2 ps' hs') (ro : rm' = .non ∨ ∃ r, rm' = .int r) (pe : Pend H2 ps' pw' it' w2') (l8 : ps'.length = 8) : LJ C H2 tp p hd wl wd w c ts as' bs' ws' ps' hs' pw' rm' it' w2' := by
  have n1 : ∀ x ∈ (wl :: hd :: bs'), x ∈ (wl :: hd :: bs) ∨ H x = Option.none := fun x hx => by
    rcases List.mem_cons.mp hx with rfl | hx
    · exact .inl List.mem_cons_self
    rcases List.mem_cons.mp hx with rfl | hx
    · exact .inl (List.mem_cons_of_mem _ List.mem_cons_self)
    · exact (nb x hx).imp (fun h => List.mem_cons_of_mem _ (List.mem_cons_of_mem _ h)) id
  have n2 : ∀ x ∈ (p :: w :: c :: as'), x ∈ (p :: w :: c :: as) ∨ H1 x = Option.none := fun x hx => by
    rcases List.mem_cons.mp hx with rfl | hx
    · exact .inl List.mem_cons_self
    rcases List.mem_cons.mp hx with rfl | hx
    · exact .inl (List.mem_cons_of_mem _ List.mem_cons_self)
    rcases List.mem_cons.mp hx with rfl | hx
    · exact .inl (List.mem_cons_of_mem _ (List.mem_cons_of_mem _ List.mem_cons_self))
    · exact (na x hx).imp (fun h => List.mem_cons_of_mem _ (List.mem_cons_of_mem _ (List.mem_cons_of_mem _ h))) id
  have dis : ∀ x ∈ (p :: w :: c :: as), x ∉ (wl :: hd :: bs') := fun x hx hn => by
    rcases n1 x hn with hn | hn
    · exact h.d3 x hx hn
    · obtain ⟨o, e⟩ := h.fl.there hx
      rw [hn] at e; cases e
  have tp1 : H1 tp = some (.lst (ts.map V.int)) := o1 _ _ h.tape (fun hm => (List.mem_cons.mp hm).elim h.d6 h.d2)
  refine ⟨o2 _ _ tp1 h.d1, e2, e1.off o2 t2 (fun x hx hn => dis x hn hx), o2 _ _ hw h.d4, r, ro, pe, l8, fun hm => ?_, fun hm => ?_, fun x hx hn => ?_, fun hm => ?_, fun hm => ?_, h.d6⟩
  · rcases n2 _ hm with hm | hm
    · exact h.d1 hm
    · rw [tp1] at hm; cases hm
  · rcases n1 _ hm with hm | hm
    · exact h.d2 hm
    · rw [h.tape] at hm; cases hm
  · rcases n2 x hx with hx | hx
    · exact dis x hx hn
    · obtain ⟨o, e⟩ := e1.there hn
      rw [hx] at e; cases e
  · rcases n2 _ hm with hm | hm
    · exact h.d4 hm
    · rw [hw] at hm; cases hm
  · rcases n1 _ hm with hm | hm
    · exact h.d5 hm
    · rw [h.wo] at hm; cases hm
/-- what is told and what is due are the same -/
def SameOk (K : PySem.W.Frag) (H : Hp) (x y : V) : Prop := (x = .non ∧ y = .non) ∨ (y ≠ .non ∧ ∃ t t' b d, TyX K H x t ∧ TyX K H y t' ∧ PySem.W.kitOne K t (.type "tuple") = some b ∧ PySem.W.kitOne K t' (.type "tuple") = some b ∧ Dp K H x d ∧ Dp K H y d ∧ SeqAt.shaped d = true ∧ PyData.eqv d d = true)
theorem SameOk.sp {K : PySem.W.Frag} {H : Hp} {x y : V} {Q : VK} {E : XK} (h : SameOk K H x y) (q : Q (.bl true) H) : spSame K [x, y] H Q E := by
  refine ⟨x, y, rfl, ?_⟩
  rcases h with ⟨h1, h2⟩ | ⟨h1, t, t', b, d, h2, h3, h4, h5, h6, h7, h8, h9⟩
  · exact .inl ⟨h1, h2, q⟩
  · exact .inr ⟨h1, t, t', b, d, h2, h3, h4, h5, h6, h7, h8, h9, q⟩
theorem same_ref {K : PySem.W.Frag} {H : Hp} {l l' : Addr} {w : V} (h : H l = some (.lst [.str "refused", w])) (h' : H l' = some (.lst [.str "refused", w])) (hw : w = .bl true ∨ w = .str "off") : SameOk K H (.ref l) (.ref l') := by
  rcases hw with rfl | rfl
  · have sh : SeqAt.shaped (.list [.str "refused", .bool true]) = true := shaped_of (by simp only [PyData.canLay0, PyData.canLayAll0]; decide +kernel) (by simp [PyData.depth, PyData.depthAll])
    exact .inr ⟨(by intro z; cases z), _, _, false, _, .base (.lst h), .base (.lst h'), kit_ty (by decide +kernel), kit_ty (by decide +kernel), .lst (SqL.of h) (.cons (.str _) (.cons (.bl true) .nil)), .lst (SqL.of h') (.cons (.str _) (.cons (.bl true) .nil)), sh, SeqAt.eqv_refl _ (SeqAt.canLay_of_shaped sh)⟩
  · have sh : SeqAt.shaped (.list [.str "refused", .str "off"]) = true := shaped_of (by simp only [PyData.canLay0, PyData.canLayAll0]; decide +kernel) (by simp [PyData.depth, PyData.depthAll])
    exact .inr ⟨(by intro z; cases z), _, _, false, _, .base (.lst h), .base (.lst h'), kit_ty (by decide +kernel), kit_ty (by decide +kernel), .lst (SqL.of h) (.cons (.str _) (.cons (.str _) .nil)), .lst (SqL.of h') (.cons (.str _) (.cons (.str _) .nil)), sh, SeqAt.eqv_refl _ (SeqAt.canLay_of_shaped sh)⟩
theorem same_pp {K : PySem.W.Frag} {H : Hp} {x y : V} (h : (x = .non ∧ y = .non) ∨ PP H x y) : SameOk K H x y := by
  rcases h with h | h
  · exact .inl h
  · obtain ⟨d, d1, d2, d3, d4, t, b, y1, y2, k⟩ := h.dp (K := K)
    have sh := shaped_of d3 (by omega)
    exact .inr ⟨h.right.ne, t, t, b, d, y1, y2, k, k, d1, d2, sh, SeqAt.eqv_refl _ (SeqAt.canLay_of_shaped sh)⟩
/-- a def of the module's own, ready to be called -/
structure Def (P : Program) (wd : World) (K : PySem.W.Frag) (mg : Str → Option Value) (base : Heap) (CX : CXT) (x : Str) (k : Nat) (ps : List Str) (sp : Sp) (f : Addr) (fd : FuncData) : Prop where
  ok : FnOk P wd K mg base CX k f fd ps sp
  bd : Binds K fd ps []
  kp : PySem.W.keepIn K (.ref f) = true
  mg : mg x = some (.ref f)
abbrev LN : List Str := ["script", "tape", "flash", "block", "held", "wears", "world", "k", "number", "pick", "act", "page", "count", "due", "told", "choice"]
theorem nil_ {σ : L2.St} {H : Hp} {Q : List V → Hp → Prop} (h : Q [] H) : tNil σ H Q := h
theorem acts10 : ∀ j, j < 10 → ∃ a : Str, ([.str "program", .str "program", .str "program", .str "program", .str "erase", .str "read", .str "fail", .str "fail", .str "cut", .str "read"] : List V)[j]? = some (.str a) ∧ (a = "program" ∨ a = "erase" ∨ a = "read" ∨ a = "fail" ∨ a = "cut")
  | 0, _ => ⟨_, rfl, .inl rfl⟩
  | 1, _ => ⟨_, rfl, .inl rfl⟩
  | 2, _ => ⟨_, rfl, .inl rfl⟩
  | 3, _ => ⟨_, rfl, .inl rfl⟩
  | 4, _ => ⟨_, rfl, .inr (.inl rfl)⟩
  | 5, _ => ⟨_, rfl, .inr (.inr (.inl rfl))⟩
  | 6, _ => ⟨_, rfl, .inr (.inr (.inr (.inl rfl)))⟩
  | 7, _ => ⟨_, rfl, .inr (.inr (.inr (.inl rfl)))⟩
  | 8, _ => ⟨_, rfl, .inr (.inr (.inr (.inr rfl)))⟩
  | 9, _ => ⟨_, rfl, .inr (.inr (.inl rfl))⟩
  | n + 10, h => by omega
theorem blks3 : ∀ j, j < 3 → ∃ b : Nat, ([.int 0, .int 7, .int 3] : List V)[j]? = some (.int (b : Int)) ∧ b < 8
  | 0, _ => ⟨0, rfl, by decide⟩
  | 1, _ => ⟨7, rfl, by decide⟩
  | 2, _ => ⟨3, rfl, by decide⟩
  | n + 3, h => by omega
theorem cnts12 : ∀ j, j < 12 → ∃ v : V, ([.non, .int 0, .int 1, .int 2, .int 3, .int 4, .int 5, .int 6, .int 100000, .int (-1), .int 100001, .str "1"] : List V)[j]? = some v ∧
    ((j ≤ 8 ∧ (v = .non ∨ ∃ n : Int, v = .int n ∧ 0 ≤ n ∧ n ≤ 100000)) ∨ (8 < j ∧ ((∃ n : Int, v = .int n ∧ ¬ (0 ≤ n ∧ n ≤ 100000)) ∨ v = .str "1")))
  | 0, _ => ⟨_, rfl, .inl ⟨by decide, .inl rfl⟩⟩
  | 1, _ => ⟨_, rfl, .inl ⟨by decide, .inr ⟨_, rfl, by decide, by decide⟩⟩⟩
  | 2, _ => ⟨_, rfl, .inl ⟨by decide, .inr ⟨_, rfl, by decide, by decide⟩⟩⟩
  | 3, _ => ⟨_, rfl, .inl ⟨by decide, .inr ⟨_, rfl, by decide, by decide⟩⟩⟩
  | 4, _ => ⟨_, rfl, .inl ⟨by decide, .inr ⟨_, rfl, by decide, by decide⟩⟩⟩
  | 5, _ => ⟨_, rfl, .inl ⟨by decide, .inr ⟨_, rfl, by decide, by decide⟩⟩⟩
  | 6, _ => ⟨_, rfl, .inl ⟨by decide, .inr ⟨_, rfl, by decide, by decide⟩⟩⟩
  | 7, _ => ⟨_, rfl, .inl ⟨by decide, .inr ⟨_, rfl, by decide, by decide⟩⟩⟩
  | 8, _ => ⟨_, rfl, .inl ⟨by decide, .inr ⟨_, rfl, by decide, by decide⟩⟩⟩
  | 9, _ => ⟨_, rfl, .inr ⟨by decide, .inl ⟨_, rfl, by decide⟩⟩⟩
  | 10, _ => ⟨_, rfl, .inr ⟨by decide, .inl ⟨_, rfl, by decide⟩⟩⟩
  | 11, _ => ⟨_, rfl, .inr ⟨by decide, .inr rfl⟩⟩
  | n + 12, h => by omega
theorem chs8 : ∀ j, j < 8 → ∃ c : Int, ([.int 0, .int 1, .int 2, .int 0, .int 1, .int 2, .int 3, .int (-1)] : List V)[j]? = some (.int c)
  | 0, _ => ⟨_, rfl⟩
  | 1, _ => ⟨_, rfl⟩
  | 2, _ => ⟨_, rfl⟩
  | 3, _ => ⟨_, rfl⟩
  | 4, _ => ⟨_, rfl⟩
  | 5, _ => ⟨_, rfl⟩
  | 6, _ => ⟨_, rfl⟩
  | 7, _ => ⟨_, rfl⟩
  | n + 8, h => by omega
end Sg

set_option Elab.async false
set_option linter.all false
set_option maxRecDepth 100000
set_option maxHeartbeats 8000000
namespace Sg
open PySem PySem.Spec PyProof.Rows L2
/-- the slots of the law, in a turn -/
def LS (C : Addr) (a tp p hd wl wd : Addr) (ts : List Int) (v3 : Option V) (vs : List (Option V)) (σ : L2.St) (H : Hp) : Prop := ∃ w c as bs ws ps hs pw rm it w2, LJ C H tp p hd wl wd w c ts as bs ws ps hs pw rm it w2 ∧
  σ = some (.ref a) :: some (.ref tp) :: some (.ref p) :: v3 :: some (.ref hd) :: some (.ref wl) :: some (.ref wd) :: vs
/-- the page and the content of an operation -/
def pgV (act : Str) (g : Nat) : V := if act = "program" then .int (g : Int) else .non
theorem offS {xs : List Addr} {H H1 H2 : Hp} (o : Off xs H H1) (s : Same H1 H2) : Off xs H H2 := fun x ob hx hn => s _ _ (o x ob hx hn)
theorem sOff {xs : List Addr} {H H1 H2 : Hp} (s : Same H H1) (o : Off xs H1 H2) : Off xs H H2 := fun x ob hx hn => o x ob (s _ _ hx) hn
theorem offT {xs ys : List Addr} {H H1 H2 : Hp} (o1 : Off xs H H1) (o2 : Off ys H1 H2) : Off (xs ++ ys) H H2 := fun x ob hx hn => o2 _ _ (o1 x ob hx (fun z => hn (List.mem_append_left _ z))) (fun z => hn (List.mem_append_right _ z))
theorem offM {xs ys : List Addr} {H H1 : Hp} (o : Off xs H H1) (h : ∀ x ∈ xs, x ∈ ys) : Off ys H H1 := fun x ob hx hn => o x ob hx (fun z => hn (h x z))
theorem w2_of {H : Hp} {ps : List (List V)} {pw : Bool} {it w2 : V} (h : Pend H ps pw it w2) : w2 = .non ∨ ∃ t, w2 = .ref t := by
  rcases h with h | ⟨_, _, t', _, _, _, _, _, _, h, _⟩
  · exact .inl h.2
  · exact .inr ⟨t', h⟩
theorem told_op {K : PySem.W.Frag} {C CN CP : Addr} {H : Hp} {p w c t dx : Addr} {as : List Addr} {ws : List Int} {ps : List (List V)} {pw : Bool} {rm it : V} {act : Str} {b g : Nat} {vs0 : List V} {xs : List V} {Q : VK} (FA : FlashAt C H p w c as ws ps pw rm it) (hob : H p = some (.ins C dx (ff (ps.length : Int) w c pw rm it)))
    (ht : H t = some (.tup xs)) (hx : xs.all flatC = true) (hb : b < ps.length) (hvs : ps[b]? = some vs0) (hrm : rm = .non ∨ ∃ r, rm = .int r) (hg : g < 8) (hact : act = "erase" ∨ (act = "program" ∧ vs0.length = g))
    (h : ∀ E, ErrTo CN CP Q E → Opered C CP H p w c as ws ps pw rm it b (pgV act g) (recV act (.ref t)) E (Q .non)) : spDo K C CN CP [.ref p, .str act, .int (b : Int), .int (g : Int), .ref t] H Q E0 := by
  have hno : ∀ m ∈ ([("program" : Str), "erase", "read", "fail_after", "cut"]), (ff (ps.length : Int) w c pw rm it).lookup m = Option.none := fun m hm => by
    simp only [List.mem_cons, List.not_mem_nil, or_false] at hm
    rcases hm with rfl | rfl | rfl | rfl | rfl <;> exact ff_no (by decide +kernel)
  refine ⟨p, act, _, _, _, dx, _, rfl, hob, hno, ?_⟩
  rcases hact with rfl | ⟨rfl, hl⟩
  · have e1 : pgV "erase" g = .non := if_neg s_ep
    have e2 : recV "erase" (.ref t) = .non := if_neg s_ep
    rw [e1, e2] at h
    refine .inr (.inl ⟨rfl, fun E he => ⟨p, w, c, as, ws, ps, pw, rm, it, _, rfl, FA, hrm, fun hn => absurd ⟨by omega, by omega⟩ hn, fun j ej hj => ?_⟩⟩)
    obtain rfl : j = b := by omega
    exact h E he
  · have e1 : pgV "program" g = .int (g : Int) := if_pos rfl
    have e2 : recV "program" (.ref t) = .ref t := if_pos rfl
    rw [e1, e2] at h
    refine .inl ⟨rfl, fun E he => ⟨p, w, c, as, ws, ps, pw, rm, it, _, _, _, _, true, rfl, FA, hrm, .base (.tup ht), kit_ty (by decide +kernel), fun hn => absurd ⟨⟨by omega, by omega⟩, ⟨by omega, by omega⟩, rfl, b, vs0, rfl, hvs, by omega⟩ hn, fun j vs e1 e2 e3 e4 _ => ?_⟩⟩
    obtain rfl : j = b := by omega
    rw [hvs] at e2; cases e2
    have := h E he
    rw [← hl] at this
    exact this
section
variable {P : Program} {wrl : World} {K : PySem.W.Frag} {mg : Str → Option Value} {base : Heap} {f C CN CP CS fW fB fT fA fI fDo fNx fDu fCu fSm f1 f3 : Addr} {fd fdT fdA fdI fdDo fdNx fdDu fdCu fdSm fd1 fd3 : FuncData}
theorem scLaw : FnScope LN ["script"] (defScope sLaw) := ⟨rfl, rfl, rfl, by decide +kernel, rfl, by decide +kernel, by decide +kernel⟩
theorem ok_law (F : Fun K "law" "law" sLaw f fd) (T : FT K mg C CN CP CS fW fB) (hmin : mg "min" = Option.none) (gT : ∃ t, mg "TORN" = some (.str "torn" t))
    (GT : Def P wrl K mg base CX0 "_law_tape" 1 ["script"] (spTape K) fT fdT) (GA : Def P wrl K mg base CX0 "_law_at" 1 ["tape", "k"] (spAt K) fA fdA)
    (M : Mk K C fI) (GI : FnOk P wrl K mg base (L2.CX P wrl) 3 fI fdI ["self", "blocks"] (spInit C CN)) (bI : Binds K fdI ["self", "blocks"] [])
    (GDo : Def P wrl K mg base CX0 "_law_do" 6 ["flash", "act", "block", "page", "record"] (spDo K C CN CP) fDo fdDo) (GNx : Def P wrl K mg base CX0 "_law_next" 1 ["pages"] spNext fNx fdNx)
    (GDu : Def P wrl K mg base CX0 "_law_due" 2 ["held", "wears", "world", "act", "block", "page", "record"] spDue fDu fdDu) (GCu : Def P wrl K mg base CX0 "_law_cut" 2 ["held", "wears", "world", "choice"] spCutL fCu fdCu)
    (GSm : Def P wrl K mg base CX0 "_law_same" 1 ["told", "due"] (spSame K) fSm fdSm)
    (G1 : FnOk P wrl K mg base CX0 1 f1 fd1 ["self"] (spImage C)) (b1 : Binds K fd1 ["self"] []) (m1 : Meth K C "image" f1)
    (G3 : FnOk P wrl K mg base (L2.CX P wrl) 4 f3 fd3 ["self", "block"] (spWear C CN)) (b3 : Binds K fd3 ["self", "block"] []) (m3 : Meth K C "wear" f3) :
    FnOk P wrl K mg base CX0 7 f fd ["script"] (spLaw K) := by
  obtain ⟨tkT, hT⟩ := gT
  refine F.ok scLaw (fun vs H Q E h => ?_) (fun cdv A outer s H vs Q E hr h => ?_)
  · obtain ⟨a, ns, rfl, _⟩ := h
    rfl
  · obtain ⟨a, ns, rfl, hS, hlen, k⟩ := h
    have hr1 : Room 1 _ := hr.mono (by decide)
    have hr2 : Room 2 _ := hr.mono (by decide)
    have hr4 : Room 4 _ := hr.mono (by decide)
    refine ⟨_, pss_cons (ps_set (i := 1) scLaw.nd rfl (Or.inl rfl) (pe_call GT.ok hr1 (by rfl) GT.mg GT.kp GT.bd .nil pass0 (pa_cons (pv 0) pa_nil)))
      (pss_cons (ps_set (i := 2) scLaw.nd rfl (Or.inl rfl) (pe_make M GI hr4 (by rfl) T.gC bI .nil passL (pa_cons pe_int pa_nil)))
      (pss_cons (ps_set (i := 4) scLaw.nd rfl (Or.inr rfl) (pe_lc (own := [("block", 3)]) (g := gName 3) (tt := tYes) (te := tRow8) (by rfl) scLaw.nd (pi_range1 (by rfl) T.bt.range (pa_cons pe_int pa_nil))
          (blkOk_by (own := [("block", 3)]) (N := LN) (sc := defScope sLaw) (by decide +kernel)) (fun _ _ _ _ _ => pg_name (i := 3) scLaw.nd rfl (Or.inl rfl)) (fun _ _ _ _ _ => pts_nil)
          (fun _ _ _ _ _ => by exact (pe_op op_rep (pe_lst (pa_cons pe_non pa_nil)) pe_int))))
      (pss_cons (ps_set (i := 5) scLaw.nd rfl (Or.inr rfl) (pe_op op_rep (pe_lst (pa_cons pe_int pa_nil)) pe_int))
      (pss_cons (ps_set (i := 6) scLaw.nd rfl (Or.inl rfl) (pe_lst (pa_cons pe_non (pa_cons pe_bl (pa_cons pe_non pa_nil)))))
      (pss_cons (ps_if (pt_cmpR op_ne (pe_glob (v := .str "torn") (by rfl) hT ⟨_, rfl⟩) pe_str (nomark _)) (pss_one (ps_ret pe_bl)) pss_nil)
      (pss_cons (ps_for PassesOwn.never rfl (pi_range1 (by rfl) T.bt.range (pa_cons (pe_callB (call_min2 rfl) (by rfl) hmin (by decide +kernel) (pa_cons pe_int (pa_cons (pe_op op_fdiv (pe_callB call_len_seq (by rfl) T.bt.len PySem.boot_len (pa_cons (pv 1) pa_nil)) pe_int) pa_nil))) pa_nil)) (pg_name (i := 7) scLaw.nd rfl (Or.inl rfl))
          (pss_cons (ps_set (i := 8) scLaw.nd rfl (Or.inl rfl) (pe_call GA.ok hr1 (by rfl) GA.mg GA.kp GA.bd .nil pass0 (pa_cons (pv 1) (pa_cons (pe_op op_mul pe_int (pv 7)) pa_nil))))
          (pss_cons (ps_set (i := 9) scLaw.nd rfl (Or.inl rfl) (pe_call GA.ok hr1 (by rfl) GA.mg GA.kp GA.bd .nil pass0 (pa_cons (pv 1) (pa_cons (pe_op op_add (pe_op op_mul pe_int (pv 7)) pe_int) pa_nil))))
          (pss_cons (ps_set (i := 10) scLaw.nd rfl (Or.inl rfl) (pe_ix ix_list (pe_lst (pa_cons pe_str (pa_cons pe_str (pa_cons pe_str (pa_cons pe_str (pa_cons pe_str (pa_cons pe_str (pa_cons pe_str (pa_cons pe_str (pa_cons pe_str (pa_cons pe_str pa_nil))))))))))) (pe_op op_mod (pv 8) pe_int) (fun _ _ => rfl)))
          (pss_cons (ps_set (i := 3) scLaw.nd rfl (Or.inl rfl) (pe_ix ix_list (pe_lst (pa_cons pe_int (pa_cons pe_int (pa_cons pe_int pa_nil)))) (pe_op op_mod (pe_op op_fdiv (pv 8) pe_int) pe_int) (fun _ _ => rfl)))
          (pss_cons (ps_set (i := 11) scLaw.nd rfl (Or.inl rfl) (pe_call GNx.ok hr1 (by rfl) GNx.mg GNx.kp GNx.bd .nil pass0 (pa_cons (pe_ix ix_list (pv 4) (pv 3) (fun _ _ => rfl)) pa_nil)))
          (Evl.pss_cut (ps_if (PW.pt (pw_or (pt_cmpR op_eq (pv 10) pe_str (nomark _)) (pw_or1 (pt_cmpR op_eq (pe_op op_mod (pv 9) pe_int) pe_int (nomark _))))) (pss_one (ps_set (i := 11) scLaw.nd rfl (Or.inl rfl) (pe_op op_mod (pv 9) pe_int))) pss_nil)
          (Evl.pss_cut (ps_if (pt_cmpR op_gt (pv 11) pe_int (nomark _)) (pss_one (ps_set (i := 11) scLaw.nd rfl (Or.inl rfl) pe_int)) pss_nil)
          (Evl.pss_cut (ps_if (pt_cmpR op_eq (pv 10) pe_str (nomark _))
              (pss_cons (ps_set (i := 12) scLaw.nd rfl (Or.inl rfl) (pe_ix ix_list (pe_lst (pa_cons pe_non (pa_cons pe_int (pa_cons pe_int (pa_cons pe_int (pa_cons pe_int (pa_cons pe_int (pa_cons pe_int (pa_cons pe_int (pa_cons pe_int (pa_cons (pe_un un_neg pe_int) (pa_cons pe_int (pa_cons pe_str pa_nil)))))))))))))
                (pe_op op_mod (pv 9) pe_int) (fun _ _ => rfl)))
              (pss_cons (ps_set (i := 13) scLaw.nd rfl (Or.inl rfl) pe_non)
              (Evl.pss_cut (ps_if (pt_cmpR op_gt (pe_op op_mod (pv 9) pe_int) pe_int (nomark _)) (pss_one (ps_set (i := 13) scLaw.nd rfl (Or.inl rfl) (pe_lst (pa_cons pe_str (pa_cons pe_bl pa_nil)))))
                (pss_one (ps_asg (pv 12) (pg_sub (pv 6) pe_int set_list))))
              (pss_one (ps_set (i := 14) scLaw.nd rfl (Or.inl rfl) (pe_call GDo.ok hr (by rfl) GDo.mg GDo.kp GDo.bd .nil pass0 (pa_cons (pv 2) (pa_cons pe_str (pa_cons (pv 12) (pa_cons pe_int (pa_cons pe_non pa_nil)))))))))))
              (pss_one (ps_if (pt_cmpR op_eq (pv 10) pe_str (nomark _))
                (pss_cons (ps_set (i := 15) scLaw.nd rfl (Or.inl rfl) (pe_ix ix_list (pe_lst (pa_cons pe_int (pa_cons pe_int (pa_cons pe_int (pa_cons pe_int (pa_cons pe_int (pa_cons pe_int (pa_cons pe_int (pa_cons (pe_un un_neg pe_int) pa_nil)))))))))
                  (pe_op op_mod (pv 9) pe_int) (fun _ _ => rfl)))
                (pss_cons (ps_set (i := 13) scLaw.nd rfl (Or.inl rfl) (pe_call GCu.ok hr2 (by rfl) GCu.mg GCu.kp GCu.bd .nil pass0 (pa_cons (pv 4) (pa_cons (pv 5) (pa_cons (pv 6) (pa_cons (pv 15) pa_nil))))))
                (pss_one (ps_set (i := 14) scLaw.nd rfl (Or.inl rfl) (pe_call GDo.ok hr (by rfl) GDo.mg GDo.kp GDo.bd .nil pass0 (pa_cons (pv 2) (pa_cons pe_str (pa_cons (pv 15) (pa_cons pe_int (pa_cons pe_non pa_nil)))))))))) 
                (pss_cons (ps_set (i := 13) scLaw.nd rfl (Or.inl rfl) (pe_call GDu.ok hr2 (by rfl) GDu.mg GDu.kp GDu.bd .nil pass0 (pa_cons (pv 4) (pa_cons (pv 5) (pa_cons (pv 6) (pa_cons (pv 10) (pa_cons (pv 3) (pa_cons (pv 11) (pa_cons (pe_tup (pa_cons (pv 7) (pa_cons (pv 9) pa_nil))) pa_nil)))))))))
                (pss_one (ps_set (i := 14) scLaw.nd rfl (Or.inl rfl) (pe_call GDo.ok hr (by rfl) GDo.mg GDo.kp GDo.bd .nil pass0 (pa_cons (pv 2) (pa_cons (pv 10) (pa_cons (pv 3) (pa_cons (pv 11) (pa_cons (pe_tup (pa_cons (pv 7) (pa_cons (pv 9) pa_nil))) pa_nil)))))))))))) 
          (pss_cons (ps_if (PW.pt (pw_or (pt_not (pt_val (pe_call GSm.ok hr1 (by rfl) GSm.mg GSm.kp GSm.bd .nil pass0 (pa_cons (pv 14) (pa_cons (pv 13) pa_nil))))) (pw_or1 (pt_cmpR op_ne (pe_meth (pv 2) T.cl m3 G3 hr4 b3 .nil passL (pa_cons (pv 3) pa_nil)) (pe_ix ix_list (pv 5) (pv 3) (fun _ _ => rfl)) (nomark _)))))
              (pss_one (ps_ret pe_bl)) pss_nil)
          (pss_one (ps_if (pt_cmpR (op_neD hr.units) (pe_ix ix_list (pe_meth0 (pv 2) T.cl m1 G1 hr1 b1 .nil pass0) (pv 3) (fun _ _ => rfl)) (pe_tup (pa_cons (pe_ix ix_list (pv 5) (pv 3) (fun _ _ => rfl)) (pa_cons (pe_ix ix_list (pv 4) (pv 3) (fun _ _ => rfl)) pa_nil))) (nomark _))
              (pss_one (ps_ret pe_bl)) pss_nil))))))))))))
      (pss_one (ps_ret (pe_cmpR (op_eqD hr.units) (pe_meth0 (pv 2) T.cl m1 G1 hr1 b1 .nil pass0)
          (pe_lc (own := [("block", 3)]) (g := gName 3) (tt := tYes) (te := tTup (tCons (tOp (rIxL K) (tVar 5) (tVar 3)) (tCons (tOp (rIxL K) (tVar 4) (tVar 3)) tNil))) (by rfl) scLaw.nd (pi_range1 (by rfl) T.bt.range (pa_cons pe_int pa_nil))
            (blkOk_by (own := [("block", 3)]) (N := LN) (sc := defScope sLaw) (by decide +kernel)) (fun _ _ _ _ _ => pg_name (i := 3) scLaw.nd rfl (Or.inl rfl)) (fun _ _ _ _ _ => pts_nil)
            (fun _ _ _ _ _ => by exact (pe_tup (pa_cons (pe_ix ix_list (pv 5) (pv 3) (fun _ _ => rfl)) (pa_cons (pe_ix ix_list (pv 4) (pv 3) (fun _ _ => rfl)) pa_nil))))) (nomark _)))))))))), ?_⟩
    -- tape = _law_tape(script)
    refine ⟨_, rfl, a, ns, rfl, hS, hlen, fun tp ts htp hts htl => ?_⟩
    have htape : (upd H tp (.lst (ts.map V.int))) tp = some (.lst (ts.map V.int)) := upd_same
    generalize upd H tp (.lst (ts.map V.int)) = H0 at htape
    -- flash = Flash(8)
    refine fun p dx hp hdx hne => ?_
    have hp1 : (upd (upd H0 dx (.own p)) p (.ins C dx [])) p = some (.ins C dx []) := upd_same
    have s0 : Same H0 (upd (upd H0 dx (.own p)) p (.ins C dx [])) := fun x o hx => by
      rw [upd_ne (ne_of_none hx hp), upd_ne (ne_of_none hx hdx)]; exact hx
    generalize upd (upd H0 dx (.own p)) p (.ins C dx []) = H1 at hp1 s0
    refine ⟨p, dx, 8, rfl, hp1, fun m hm h8 h24 w c as H2 FA hw hc has off tup => ⟨rfl, ?_⟩, fun hn' => absurd ⟨by decide, by decide⟩ hn'⟩
    obtain rfl : m = 8 := by omega
    have tpp : tp ≠ p := ne_of_none htape hp
    have htp2 : H2 tp = some (.lst (ts.map V.int)) := off _ _ (s0 _ _ htape) (by simpa using tpp)
    -- held = [[None] * 8 for block in range(8)]
    refine ⟨8, rfl, by decide, by decide, fun hd hhd => ?_⟩
    refine rows_lc (j := 3) (n := 8) hhd (fun _ => rfl) (by decide) fun H3 bs s3 GB hbs => ?_
    -- wears = [0] * 8
    refine ⟨by show 1 ≤ sizeLine; decide, fun l hl => ?_⟩
    refine ⟨l, 8, [.int 0], rfl, rfl, upd_same, by decide, by decide, by show 8 ≤ sizeLine; decide, fun wl hwl => ?_⟩
    rw [show Int.toNat 8 = 8 from rfl, ints_rep]
    have s4 : Same H3 (upd H3 l (.lst [V.int 0])) := same_new hl
    have s5 : Same (upd H3 l (.lst [V.int 0])) (upd (upd H3 l (.lst [V.int 0])) wl (.lst ((List.replicate 8 (0 : Int)).map V.int))) := same_new hwl
    have hwr : (upd (upd H3 l (.lst [V.int 0])) wl (.lst ((List.replicate 8 (0 : Int)).map V.int))) wl = some (.lst ((List.replicate 8 (0 : Int)).map V.int)) := upd_same
    have s45 := s4.trans s5
    generalize upd (upd H3 l (.lst [V.int 0])) wl (.lst ((List.replicate 8 (0 : Int)).map V.int)) = H5 at s5 s45 hwr
    have s25 := s3.trans s45
    have hwl3 : H3 wl = Option.none := s4.free hwl
    have hwl2 : H2 wl = Option.none := s3.free hwl3
    -- world = [None, True, None]
    refine ⟨by show 3 ≤ sizeLine; decide, fun wd hwd => ?_⟩
    have s6 : Same H5 (upd H5 wd (.lst [.non, .bl true, .non])) := same_new hwd
    have hwd6 : (upd H5 wd (.lst [.non, .bl true, .non])) wd = some (.lst [.non, .bl true, .non]) := upd_same
    generalize upd H5 wd (.lst [.non, .bl true, .non]) = H6 at s6 hwd6
    have s26 := s25.trans s6
    have HE6 : Held H6 hd wl bs (List.replicate 8 0) (List.replicate 8 []) := ⟨s6 _ _ hwr, (GB.same s45).same s6, rfl, pgs_nil, (ne_of_none GB.ls hwl3).symm, not_of_free hwl3 fun x hx => GB.there hx⟩
    have FA6 := FA.same s26
    have own1 : ∀ x ∈ (p :: w :: c :: as), ∃ o, H2 x = some o := fun x hx => FA.there hx
    have new2 : ∀ x ∈ (wl :: hd :: bs), H2 x = Option.none := fun x hx => by
      rcases List.mem_cons.mp hx with rfl | hx
      · exact hwl2
      rcases List.mem_cons.mp hx with rfl | hx
      · exact hhd
      · exact hbs x hx
    have htpn : tp ∉ (p :: w :: c :: as) := fun hm => by
      rcases List.mem_cons.mp hm with e | hm
      · exact tpp e
      have htp1 := s0 _ _ htape
      rcases List.mem_cons.mp hm with e | hm
      · rw [e, hw] at htp1; cases htp1
      rcases List.mem_cons.mp hm with e | hm
      · rw [e, hc] at htp1; cases htp1
      · rw [has tp hm] at htp1; cases htp1
    have wdH2 : H2 wd = Option.none := s25.free hwd
    have L6 : LJ C H6 tp p hd wl wd w c ts as bs (List.replicate 8 0) (List.replicate 8 []) (List.replicate 8 []) true .non .non .non :=
      ⟨s26 _ _ htp2, FA6, HE6, hwd6, GrR.reps 8, .inl rfl, .inl ⟨rfl, rfl⟩, rfl, htpn, (fun hm => by rw [new2 tp hm] at htp2; cases htp2), (fun x hx hn => by
        obtain ⟨o, e⟩ := own1 x hx
        rw [new2 x hn] at e; cases e), (fun hm => by
        obtain ⟨o, e⟩ := own1 wd hm
        rw [wdH2] at e; cases e), not_of_free hwd fun x hx => by
          rcases List.mem_cons.mp hx with rfl | hx
          · exact ⟨_, hwr⟩
          rcases List.mem_cons.mp hx with rfl | hx
          · exact ⟨_, s45 _ _ GB.ls⟩
          · obtain ⟨o, e⟩ := GB.there hx
            exact ⟨o, s45 _ _ e⟩, (fun e => by rw [e, wdH2] at htp2; cases htp2)⟩
    -- if TORN != "torn"
    refine ⟨rfl, _, rfl, ?_⟩
    rw [str_eqT]
    refine iteF ?_
    -- the loop
    refine ⟨_, rfl, tp, _, rfl, .inl (SqL.of L6.tape), _, _, rfl, rfl, ⟨by decide, by decide⟩, 50, _, rfl, _, rfl, ?_, ?_, ?_⟩
    · rw [List.length_map]; split <;> omega
    · rw [List.length_map]; split <;> omega
    refine for_range (lo := 0) (fun i σ H' => ∃ v3 v7 v8 v9 v10 v11 v12 v13 v14 v15 : Option V, LS C a tp p hd wl wd ts v3 [v7, v8, v9, v10, v11, v12, v13, v14, v15] σ H')
      ⟨none, none, none, none, none, none, none, none, none, none, w, c, as, bs, _, _, _, _, _, _, _, L6, rfl⟩ ?_ ?_
    · rintro i σ H7 hi ⟨v3, v7, v8, v9, v10, v11, v12, v13, v14, v15, w, c, as, bs, ws, ps, hs, pw, rm, it, w2, L7, rfl⟩
      -- number, pick
      refine ⟨_, rfl, _, rfl, _, _, rfl, rfl, .inl ⟨by decide, by decide⟩, tp, ts, 2 * i, ?_, SqL.of L7.tape, ?_⟩
      · show [V.ref tp, V.int (2 * (0 + (i : Int)))] = _
        rw [show (2 : Int) * (0 + (i : Int)) = ((2 * i : Nat) : Int) by omega]
      refine ⟨_, rfl, _, rfl, _, _, rfl, rfl, .inl ⟨by decide, by decide⟩, _, _, rfl, rfl, tp, ts, 2 * i + 1, ?_, SqL.of L7.tape, ?_⟩
      · show [V.ref tp, V.int (2 * (0 + (i : Int)) + 1)] = _
        rw [show (2 : Int) * (0 + (i : Int)) + 1 = ((2 * i + 1 : Nat) : Int) by omega]
      have hnum := hts.at (2 * i)
      have hpic := hts.at (2 * i + 1)
      generalize ts.getD (2 * i) 0 = num at hnum
      generalize ts.getD (2 * i + 1) 0 = pic at hpic
      -- act
      obtain ⟨act, hac, hact⟩ := acts10 (num % 10).toNat (by omega)
      refine ⟨by show 10 ≤ sizeLine; decide, fun l1 hl1 => ?_⟩
      refine ⟨_, rfl, _, _, rfl, rfl, (by show (0 : Int) < 10; decide), l1, _, _, .str act, rfl, rfl, SqL.of upd_same, at_of (show num % 10 = (((num % 10).toNat : Nat) : Int) by omega) hac, ?_⟩
      have sa := same_new (o := .lst [.str "program", .str "program", .str "program", .str "program", .str "erase", .str "read", .str "fail", .str "fail", .str "cut", .str "read"]) hl1
      -- block
      obtain ⟨b, hbl, hb8⟩ := blks3 (num / 10 % 3).toNat (by omega)
      refine ⟨by show 3 ≤ sizeLine; decide, fun l2 hl2 => ?_⟩
      refine ⟨_, rfl, _, _, rfl, rfl, ⟨by decide, by decide⟩, _, _, rfl, rfl, (by show (0 : Int) < 3; decide), l2, _, _, .int (b : Int), rfl, rfl, SqL.of upd_same, at_of (show num / 10 % 3 = (((num / 10 % 3).toNat : Nat) : Int) by omega) hbl, ?_⟩
      have sb := sa.trans (same_new (o := .lst [.int 0, .int 7, .int 3]) hl2)
      have L8 := L7.same sb
      generalize upd (upd H7 l1 (.lst [.str "program", .str "program", .str "program", .str "program", .str "erase", .str "read", .str "fail", .str "fail", .str "cut", .str "read"])) l2 (.lst [.int 0, .int 7, .int 3]) = H8 at L8
      -- page
      have hlh : hs.length = 8 := by rw [← L8.rel.len]; exact L8.l8
      have hbh : b < hs.length := by omega
      obtain ⟨us0, hus⟩ : ∃ us, hs[b]? = some us := ⟨_, List.getElem?_eq_getElem hbh⟩
      obtain ⟨vs0, hvs, hrr⟩ := L8.rel.get hus
      obtain ⟨ra, hra, hrow⟩ := L8.he.gr.at hus
      refine ⟨_, rfl, _, rfl, hd, _, _, .ref ra, rfl, rfl, SqL.of L8.he.gr.ls, atI_nat (get_map hra), ra, us0, rfl, hrow, L8.he.pg _ (List.mem_of_getElem? hus), ?_⟩
      refine ⟨fun σ' H' => ∃ g : Int, σ' = [some (.ref a), some (.ref tp), some (.ref p), some (.int (b : Int)), some (.ref hd), some (.ref wl), some (.ref wd), some (.int (0 + (i : Int))), some (.int num), some (.int pic), some (.str act), some (.int g), v12, v13, v14, v15] ∧ 0 ≤ g ∧ H' = H8, ?_, ?_⟩
      · refine ⟨_, rfl, rfl, _, rfl, ?_⟩
        refine ite2 (fun _ => iteT ?_) (fun _ => ?_)
        · exact ⟨_, rfl, _, _, rfl, rfl, (by show (0 : Int) < 8; decide), pic % 8, rfl, by omega, rfl⟩
        · refine ⟨_, rfl, _, _, rfl, rfl, (by show (0 : Int) < 9; decide), rfl, _, rfl, ?_⟩
          refine ite2 (fun _ => ?_) (fun _ => ?_)
          · exact ⟨_, rfl, _, _, rfl, rfl, (by show (0 : Int) < 8; decide), pic % 8, rfl, by omega, rfl⟩
          · exact ⟨(us0.length : Int), rfl, by omega, rfl⟩
      rintro σ8 H8' ⟨g0, rfl, hg0, rfl⟩
      refine ⟨fun σ' H' => ∃ g : Nat, σ' = [some (.ref a), some (.ref tp), some (.ref p), some (.int (b : Int)), some (.ref hd), some (.ref wl), some (.ref wd), some (.int (0 + (i : Int))), some (.int num), some (.int pic), some (.str act), some (.int (g : Int)), v12, v13, v14, v15] ∧ g < 8 ∧ H' = H8', ?_, ?_⟩
      · refine ⟨_, rfl, _, _, rfl, rfl, _, rfl, ?_⟩
        refine ite2 (fun _ => ?_) (fun hc => ?_)
        · exact ⟨7, rfl, by decide, rfl⟩
        · have hg : ¬ 7 < g0 := fun z => hc (decide_eq_true z)
          refine ⟨g0.toNat, ?_, by omega, rfl⟩
          rw [Int.toNat_of_nonneg hg0]
      rintro σ9 H9 ⟨g, rfl, hg8, rfl⟩
      -- the operation
      refine ⟨fun σ' H' => ∃ (v12 v15 : Option V) (told due : V), LS C a tp p hd wl wd ts (some (.int (b : Int))) [some (.int (0 + (i : Int))), some (.int num), some (.int pic), some (.str act), some (.int (g : Int)), v12, some due, some told, v15] σ' H' ∧ SameOk K H' told due, ?_, ?_⟩
      · have none_ref : ∀ {H H' : Hp} {l : Addr} {o : HO}, Same H H' → H' l = Option.none → H l = Option.none := fun s h => s.free h
        obtain ⟨dx9, hob9⟩ := id L8.fl.ob
        have hno : ∀ m ∈ ([("program" : Str), "erase", "read", "fail_after", "cut"]), (ff (ps.length : Int) w c pw rm it).lookup m = Option.none := fun m hm => by
          simp only [List.mem_cons, List.not_mem_nil, or_false] at hm
          rcases hm with rfl | rfl | rfl | rfl | rfl <;> exact ff_no (by decide +kernel)
        refine ⟨_, rfl, rfl, _, rfl, ?_⟩
        rcases (show (act = "program" ∨ act = "erase" ∨ act = "read") ∨ act = "fail" ∨ act = "cut" by
          rcases hact with h | h | h | h | h
          · exact .inl (.inl h)
          · exact .inl (.inr (.inl h))
          · exact .inl (.inr (.inr h))
          · exact .inr (.inl h)
          · exact .inr (.inr h)) with h3 | rfl | rfl
        · -- program, erase, read
          have hnf : ¬ act = "fail" := by rcases h3 with rfl | rfl | rfl <;> decide +kernel
          have hnc : ¬ act = "cut" := by rcases h3 with rfl | rfl | rfl <;> decide +kernel
          rw [str_eqF hnf]
          refine iteF ⟨_, rfl, rfl, _, rfl, ?_⟩
          rw [str_eqF hnc]
          refine iteF ?_
          refine ⟨_, rfl, _, rfl, _, rfl, _, rfl, _, rfl, _, rfl, _, rfl, _, rfl, by show 2 ≤ sizeLine; decide, fun t3 ht3 => ?_⟩
          have L9 := L8.same (same_new (o := .tup [.int (0 + (i : Int)), .int pic]) ht3)
          have et3 : (upd H9 t3 (.tup [.int (0 + (i : Int)), .int pic])) t3 = some (.tup [.int (0 + (i : Int)), .int pic]) := upd_same
          generalize upd H9 t3 (.tup [.int (0 + (i : Int)), .int pic]) = H10 at L9 et3
          have hfx : [V.int (0 + (i : Int)), V.int pic].all flatC = true := rfl
          have hbp : b < ps.length := by have := L9.l8; omega
          have hrr9 : RowR H10 vs0 us0 := by
            obtain ⟨vs', e1, e2⟩ := L9.rel.get hus
            rw [hvs] at e1; cases e1; exact e2
          have hlvu := hrr9.len
          refine ⟨hd, wl, wd, act, b, g, .ref t3, bs, ws, hs, us0, rm, pw, w2, rfl, L9.he, hus, L9.wo, L9.d5, L9.rmo, w2_of L9.pe, hg8, ?_⟩
          have dwd : ∀ {xs : List Addr}, wd ∉ xs → ∀ x ∈ xs, x ∉ [wd] := fun h x hx hm => by rw [List.mem_singleton.mp hm] at hx; exact h hx
          by_cases hread : act = "read"
          · subst hread
            refine .inl ⟨rfl, fun hpw l H1 hl s1 e1 => ?_, fun hpw v H1 hv s1 => ?_⟩
            · have L10 := L9.same s1
              refine ⟨_, rfl, _, rfl, _, rfl, _, rfl, _, rfl, _, rfl, by show 2 ≤ sizeLine; decide, fun t5 ht5 => ?_⟩
              have s5 := same_new (o := .tup [.int (0 + (i : Int)), .int pic]) ht5
              have L11 := L10.same s5
              obtain ⟨dx1, hob1⟩ := id L11.fl.ob
              refine ⟨p, "read", _, _, _, dx1, _, rfl, hob1, hno, .inr (.inr (.inl ⟨rfl, fun E' he => ⟨p, w, c, as, ws, ps, pw, rm, it, _, _, rfl, L11.fl, fun hn' => absurd ⟨⟨by omega, by omega⟩, by omega, by omega⟩ hn', fun j i2 vs v ej ei e3 e4 => ⟨fun _ => he.2 _ fun l2 hl2 => ?_, fun z => by rw [hpw] at z; cases z⟩⟩⟩))⟩
              have s2 := same_new (o := .lst [.str "refused", .str "off"]) hl2
              exact ⟨v12, v15, .ref l2, .ref l, ⟨w, c, as, bs, ws, ps, hs, pw, rm, it, w2, L11.same s2, rfl⟩, same_ref upd_same (s2 _ _ (s5 _ _ e1)) (.inr rfl)⟩
            · have L10 := L9.same s1
              refine ⟨_, rfl, _, rfl, _, rfl, _, rfl, _, rfl, _, rfl, by show 2 ≤ sizeLine; decide, fun t5 ht5 => ?_⟩
              have s5 := same_new (o := .tup [.int (0 + (i : Int)), .int pic]) ht5
              have L11 := L10.same s5
              obtain ⟨dx1, hob1⟩ := id L11.fl.ob
              refine ⟨p, "read", _, _, _, dx1, _, rfl, hob1, hno, .inr (.inr (.inl ⟨rfl, fun E' he => ⟨p, w, c, as, ws, ps, pw, rm, it, _, _, rfl, L11.fl, fun hn' => absurd ⟨⟨by omega, by omega⟩, by omega, by omega⟩ hn', fun j i2 vs v' ej ei e3 e4 => ⟨fun z => (by rw [hpw] at z; cases z), fun _ => ?_⟩⟩⟩))⟩
              obtain rfl : j = b := by omega
              obtain rfl : i2 = g := by omega
              rw [hvs] at e3; cases e3
              obtain ⟨y, hy, hyp⟩ := ((hrr9.mono (same_tups s1)).mono (same_tups s5)).row_get e4
              rw [hv] at hy; cases hy
              exact ⟨v12, v15, v', v, ⟨w, c, as, bs, ws, ps, hs, pw, rm, it, w2, L11, rfl⟩, same_pp hyp⟩
          by_cases hmis : act = "program" ∧ us0.length ≠ g
          · obtain ⟨rfl, hlen⟩ := hmis
            refine .inr (.inl ⟨rfl, hlen, fun l H1 hl s1 e1 => ?_⟩)
            have L10 := L9.same s1
            refine ⟨_, rfl, _, rfl, _, rfl, _, rfl, _, rfl, _, rfl, by show 2 ≤ sizeLine; decide, fun t5 ht5 => ?_⟩
            have s5 := same_new (o := .tup [.int (0 + (i : Int)), .int pic]) ht5
            have L11 := L10.same s5
            obtain ⟨dx1, hob1⟩ := id L11.fl.ob
            refine ⟨p, "program", _, _, _, dx1, _, rfl, hob1, hno, .inl ⟨rfl, fun E' he => ⟨p, w, c, as, ws, ps, pw, rm, it, _, _, _, _, true, rfl, L11.fl, L11.rmo, .base (.tup upd_same), kit_ty (by decide +kernel), fun _ => he.1 _ fun l2 hl2 => ?_, fun j vs ej e2 e3 e4 _ => ?_⟩⟩⟩
            · have s2 := same_new (o := .lst [.str "refused", .bl true]) hl2
              exact ⟨v12, v15, .ref l2, .ref l, ⟨w, c, as, bs, ws, ps, hs, pw, rm, it, w2, L11.same s2, rfl⟩, same_ref upd_same (s2 _ _ (s5 _ _ e1)) (.inl rfl)⟩
            · obtain rfl : j = b := by omega
              rw [hvs] at e2; cases e2
              exact absurd (show us0.length = g by omega) hlen
          have hact2 : act = "erase" ∨ (act = "program" ∧ us0.length = g) := by
            rcases h3 with h | h | h
            · exact .inr ⟨h, Classical.byContradiction fun z => hmis ⟨h, z⟩⟩
            · exact .inl h
            · exact absurd h hread
          have hactF : act = "erase" ∨ (act = "program" ∧ vs0.length = g) := hact2.imp id (fun z => ⟨z.1, by rw [hlvu]; exact z.2⟩)
          refine .inr (.inr ⟨hact2, .inr ⟨t3, _, rfl, et3, hfx⟩, fun hpw l H1 hl s1 e1 => ?_, fun hpw hrm0 t l H1 ht e1 e2 o1 t1 hl e3 => ?_, fun hpw hrm0 H1 e1 o1 t1 => ?_⟩)
          · -- the power is off
            have L10 := L9.same s1
            refine ⟨_, rfl, _, rfl, _, rfl, _, rfl, _, rfl, _, rfl, by show 2 ≤ sizeLine; decide, fun t5 ht5 => ?_⟩
            have s5 := same_new (o := .tup [.int (0 + (i : Int)), .int pic]) ht5
            have L11 := L10.same s5
            obtain ⟨dx1, hob1⟩ := id L11.fl.ob
            refine told_op L11.fl hob1 upd_same hfx hbp hvs L11.rmo hg8 hactF fun E' he => ⟨fun _ => he.2 _ fun l2 hl2 => ?_, fun z => (by rw [hpw] at z; cases z), fun z => (by rw [hpw] at z; cases z)⟩
            have s2 := same_new (o := .lst [.str "refused", .str "off"]) hl2
            exact ⟨v12, v15, .ref l2, .ref l, ⟨w, c, as, bs, ws, ps, hs, pw, rm, it, w2, L11.same s2, rfl⟩, same_ref upd_same (s2 _ _ (s5 _ _ e1)) (.inr rfl)⟩
          · -- the power fails in this operation
            have F1 := L9.fl.off o1 t1 (dwd L9.d4)
            have E1 := L9.he.off o1 t1 (dwd L9.d5)
            refine ⟨_, rfl, _, rfl, _, rfl, _, rfl, _, rfl, _, rfl, by show 2 ≤ sizeLine; decide, fun t5 ht5 => ?_⟩
            have s5 := same_new (o := .tup [.int (0 + (i : Int)), .int pic]) ht5
            have F1' := F1.same s5
            obtain ⟨dx1, hob1⟩ := id F1'.ob
            refine told_op F1' hob1 upd_same hfx hbp hvs L9.rmo hg8 hactF fun E' he => ⟨fun z => (by rw [hpw] at z; cases z), fun _ _ tf H2 htf etf F2 o2 t2 => he.2 _ fun l2 hl2 => ?_, fun _ z => absurd hrm0 z⟩
            have s2 := same_new (o := .lst [.str "refused", .str "off"]) hl2
            have t5' := same_tups s5
            have e3' : H2 l = some (.lst [.str "refused", .str "off"]) := o2 _ _ (s5 _ _ e3) (fun hm => by
              rw [List.mem_singleton.mp hm] at hl
              obtain ⟨dxx, hx⟩ := L9.fl.ob
              rw [hx] at hl; cases hl)
            have pp : PP H2 (.ref t5) (.ref t3) := .inr ⟨t5, t3, _, rfl, rfl, t2 _ _ upd_same, t2 _ _ (t5' _ _ (t1 _ _ et3)), hfx⟩
            have pend : Pend H2 ps false (.ref tf) (.ref t) := by
              refine .inr ⟨rfl, tf, t, act, b, g, .ref t5, .ref t3, rfl, rfl, t2 _ _ (t5' _ _ e1), hbp, ?_⟩
              rcases hactF with rfl | ⟨rfl, hl8⟩
              · rw [show pgV "erase" g = .non from if_neg s_ep, show recV "erase" (.ref t5) = .non from if_neg s_ep] at etf
                exact .inl ⟨rfl, etf⟩
              · rw [show pgV "program" g = .int (g : Int) from if_pos rfl, show recV "program" (.ref t5) = .ref t5 from if_pos rfl] at etf
                exact .inr ⟨rfl, etf, pp, hg8, vs0, hvs, hl8⟩
            have L12 := L9.step (E1.same s5) (offM (offS o1 s5) (fun x hx => by rw [List.mem_singleton.mp hx]; exact List.mem_cons_self)) (t1.trans t5') (s5 _ _ e2) (fun x hx => .inl hx) F2 (offM o2 (fun x hx => by rw [List.mem_singleton.mp hx]; exact List.mem_cons_self)) t2 (fun x hx => .inl hx)
              (((L9.rel.mono t1).mono t5').mono t2) (.inr ⟨0, rfl⟩) pend L9.l8
            exact ⟨v12, v15, .ref l2, .ref l, ⟨w, c, as, bs, ws, ps, hs, false, .int 0, .ref tf, .ref t, L12.same s2, rfl⟩, same_ref upd_same (s2 _ _ e3') (.inr rfl)⟩
          · -- it is carried out
            subst hpw
            have F1 := L9.fl.off o1 t1 (dwd L9.d4)
            have rmo2 : remAfter rm = .non ∨ ∃ r, remAfter rm = .int r := by
              rcases L9.rmo with rfl | ⟨r, rfl⟩
              · exact .inl rfl
              · exact .inr ⟨_, rfl⟩
            have itw : it = .non ∧ w2 = .non := by
              rcases L9.pe with h | ⟨h, _⟩
              · exact h
              · cases h
            obtain ⟨rfl, rfl⟩ := itw
            have oall : ∀ {Hb Hc : Hp}, Off (wl :: hd :: bs) H1 Hb → Same Hb Hc → Off (wd :: wl :: hd :: bs) H10 Hc := fun o2 s => offM (offS (offT o1 o2) s) (fun x hx => hx)
            have ofl : ∀ {Ha Hb Hc : Hp}, Off [p] Ha Hb → Off (p :: w :: c :: as) Hb Hc → Off (p :: w :: c :: as) Ha Hc := fun o3 o4 => offM (offT o3 o4) (fun x hx => by
              rcases List.mem_append.mp hx with h | h
              · rw [List.mem_singleton.mp h]; exact List.mem_cons_self
              · exact h)
            rcases hact2 with rfl | ⟨rfl, hlen⟩
            · rw [show recV "erase" (.ref t3) = .non from if_neg s_ep]
              refine .inr ⟨s_ep, .inl rfl, fun q H2 wv hq hwv E2 o2 t2 => ?_⟩
              have F2 := F1.off o2 t2 (fun x hx hn => L9.d3 x hx hn)
              refine ⟨_, rfl, _, rfl, _, rfl, _, rfl, _, rfl, _, rfl, by show 2 ≤ sizeLine; decide, fun t5 ht5 => ?_⟩
              have s5 := same_new (o := .tup [.int (0 + (i : Int)), .int pic]) ht5
              have F2' := F2.same s5
              obtain ⟨dx1, hob1⟩ := id F2'.ob
              refine told_op F2' hob1 upd_same hfx hbp hvs L9.rmo hg8 hactF fun E' he => ⟨fun z => Bool.noConfusion z, fun _ z => absurd z hrm0, fun _ _ H3 F3 o3 t3' => ?_⟩
              rw [show pgV "erase" g = .non from if_neg s_ep, show recV "erase" (.ref t5) = .non from if_neg s_ep]
              refine .inl ⟨rfl, .inl rfl, fun q' H4 wv' hq' hw' F4 o4 t4 => ?_⟩
              rw [hwv] at hw'; cases hw'
              have hq2 : H1 q = Option.none := hq
              have hq10 : H10 q = Option.none := by
                cases e : H10 q with
                | none => rfl
                | some ob =>
                  exfalso
                  by_cases eq : q = wd
                  · rw [eq, e1] at hq; cases hq
                  · rw [o1 q ob e (by simpa using eq)] at hq; cases hq
              have hqf : (upd H2 t5 (.tup [.int (0 + (i : Int)), .int pic])) q' = Option.none := by
                cases e : (upd H2 t5 (.tup [.int (0 + (i : Int)), .int pic])) q' with
                | none => rfl
                | some ob =>
                  exfalso
                  by_cases eq : q' = p
                  · subst eq
                    obtain ⟨dx', h'⟩ := F3.ob
                    rw [h'] at hq'; cases hq'
                  · rw [o3 q' ob e (by simpa using eq)] at hq'; cases hq'
              have nq : wd ∉ (wl :: hd :: bs) := L9.d5
              have tall := (t1.trans t2).trans (same_tups s5)
              have L12 := L9.step (E2.same s5) (oall o2 s5) tall (s5 _ _ (o2 _ _ e1 nq)) (fun x hx => by
                  rcases mem_set_of hx with h | h
                  · exact .inr (by rw [h]; exact hq10)
                  · exact .inl h) F4 (ofl o3 o4) (t3'.trans t4) (fun x hx => by
                  rcases mem_set_of hx with h | h
                  · exact .inr (by rw [h]; exact hqf)
                  · exact .inl h)
                (((L9.rel.mono tall).mono (t3'.trans t4)).set .nil b) rmo2 (.inl ⟨rfl, rfl⟩) (by rw [List.length_set]; exact L9.l8)
              exact ⟨v12, v15, .non, .non, ⟨w, c, as.set b q', bs.set b q, _, _, _, true, remAfter rm, .non, .non, L12, rfl⟩, .inl ⟨rfl, rfl⟩⟩
            · rw [show recV "program" (.ref t3) = .ref t3 from if_pos rfl]
              refine .inl ⟨rfl, us0, hus, by rw [hlen], by omega, .inr ⟨t3, _, rfl, t1 _ _ et3, hfx⟩, fun H2 E2 o2 t2 => ?_⟩
              have F2 := F1.off o2 t2 (fun x hx hn => L9.d3 x hx hn)
              refine ⟨_, rfl, _, rfl, _, rfl, _, rfl, _, rfl, _, rfl, by show 2 ≤ sizeLine; decide, fun t5 ht5 => ?_⟩
              have s5 := same_new (o := .tup [.int (0 + (i : Int)), .int pic]) ht5
              have F2' := F2.same s5
              obtain ⟨dx1, hob1⟩ := id F2'.ob
              refine told_op F2' hob1 upd_same hfx hbp hvs L9.rmo hg8 hactF fun E' he => ⟨fun z => Bool.noConfusion z, fun _ z => absurd z hrm0, fun _ _ H3 F3 o3 t3' => ?_⟩
              rw [show pgV "program" g = .int (g : Int) from if_pos rfl, show recV "program" (.ref t5) = .ref t5 from if_pos rfl]
              have hl8 : vs0.length = g := by omega
              refine .inr ⟨vs0, hvs, by rw [hl8], by omega, .inr ⟨t5, _, rfl, t3' _ _ upd_same, hfx⟩, fun H4 F4 o4 t4 => ?_⟩
              have tall := (t1.trans t2).trans (same_tups s5)
              have pp : PP H4 (.ref t5) (.ref t3) := .inr ⟨t5, t3, _, rfl, rfl, t4 _ _ (t3' _ _ upd_same), t4 _ _ (t3' _ _ (tall _ _ et3)), hfx⟩
              have L12 := L9.step (E2.same s5) (oall o2 s5) tall (s5 _ _ (o2 _ _ e1 L9.d5)) (fun x hx => .inl hx) F4 (ofl o3 o4) (t3'.trans t4) (fun x hx => .inl hx)
                (((L9.rel.mono tall).mono (t3'.trans t4)).set (((hrr9.mono tall).mono (t3'.trans t4)).snoc pp) b) rmo2 (.inl ⟨rfl, rfl⟩) (by rw [List.length_set]; exact L9.l8)
              exact ⟨v12, v15, .non, .non, ⟨w, c, as, bs, ws, _, _, true, remAfter rm, .non, .non, L12, rfl⟩, .inl ⟨rfl, rfl⟩⟩
        · -- fail
          rw [str_eqT]
          refine iteT ?_
          obtain ⟨cv, hcv, hcc⟩ := cnts12 (pic % 12).toNat (by omega)
          refine ⟨_, rfl, by show 12 ≤ sizeLine; decide, fun l3 hl3 => ?_⟩
          refine ⟨_, rfl, _, _, rfl, rfl, (by show (0 : Int) < 12; decide), l3, _, _, cv, rfl, rfl, SqL.of upd_same, at_of (show pic % 12 = (((pic % 12).toNat : Nat) : Int) by omega) hcv, ?_⟩
          have L9 := L8.same (same_new (o := .lst [.non, .int 0, .int 1, .int 2, .int 3, .int 4, .int 5, .int 6, .int 100000, .int (-1), .int 100001, .str "1"]) hl3)
          generalize upd H9 l3 (.lst [.non, .int 0, .int 1, .int 2, .int 3, .int 4, .int 5, .int 6, .int 100000, .int (-1), .int 100001, .str "1"]) = H10 at L9
          refine ⟨fun σ' H' => ∃ due : V, σ' = [some (.ref a), some (.ref tp), some (.ref p), some (.int (b : Int)), some (.ref hd), some (.ref wl), some (.ref wd), some (.int (0 + (i : Int))), some (.int num), some (.int pic), some (.str "fail"), some (.int (g : Int)), some cv, some due, v14, v15] ∧
            ((pic % 12 ≤ 8 ∧ due = .non ∧ H' = upd H10 wd (.lst [cv, .bl pw, w2])) ∨ (8 < pic % 12 ∧ ∃ l, due = .ref l ∧ H' l = some (.lst [.str "refused", .bl true]) ∧ Same H10 H')), ⟨_, rfl, _, _, rfl, rfl, (by show (0 : Int) < 12; decide), _, _, rfl, rfl, _, rfl, ?_⟩, ?_⟩
          · refine ite2 (fun hc => ?_) (fun hc => ?_)
            · exact ⟨by show 2 ≤ sizeLine; decide, fun l4 hl4 => ⟨.ref l4, rfl, .inr ⟨of_decide_eq_true hc, l4, rfl, upd_same, same_new hl4⟩⟩⟩
            · have hc' : ¬ 8 < pic % 12 := fun z => hc (decide_eq_true z)
              exact ⟨_, rfl, _, rfl, wd, _, _, 0, rfl, rfl, L9.wo, Evl.ixN_nat (j := 0) (by show 0 < 3; decide), .non, rfl, .inl ⟨by omega, rfl, rfl⟩⟩
          rintro σ' H' ⟨due, rfl, ⟨hle, rfl, rfl⟩ | ⟨hlt, l, rfl, hl, sl⟩⟩
          · have hgood : cv = .non ∨ ∃ n : Int, cv = .int n ∧ 0 ≤ n ∧ n ≤ 100000 := by
              rcases hcc with ⟨_, h⟩ | ⟨h, _⟩
              · exact h
              · omega
            have oW : Off [wd] H10 (upd H10 wd (.lst [cv, .bl pw, w2])) := fun x o hx hn => by rw [upd_ne (by simpa using hn)]; exact hx
            have tW : Tups H10 (upd H10 wd (.lst [cv, .bl pw, w2])) := Tups.lst L9.wo
            have F1 := L9.fl.off oW tW (fun x hx hm => by rw [List.mem_singleton.mp hm] at hx; exact L9.d4 hx)
            have E1 := L9.he.off oW tW (fun x hx hm => by rw [List.mem_singleton.mp hm] at hx; exact L9.d5 hx)
            obtain ⟨dx1, hob1⟩ := id F1.ob
            refine ⟨_, rfl, _, rfl, p, "fail", cv, .int 0, .non, dx1, _, rfl, hob1, hno, .inr (.inr (.inr (.inl ⟨rfl, fun E' he => ⟨p, w, c, as, ws, ps, pw, rm, it, cv, rfl, F1, .inl ⟨hgood, fun H'' F'' o'' t'' => ?_⟩⟩⟩)))⟩
            refine ⟨some cv, v15, .non, .non, ⟨w, c, as, bs, ws, ps, hs, pw, cv, it, w2, L9.step E1 (offM oW (fun x hx => by rw [List.mem_singleton.mp hx]; exact List.mem_cons_self)) tW upd_same (fun x hx => .inl hx) F'' (offM o'' (fun x hx => by rw [List.mem_singleton.mp hx]; exact List.mem_cons_self)) t'' (fun x hx => .inl hx)
              ((L9.rel.mono tW).mono t'') ?_ ((L9.pe.mono tW).mono t'') L9.l8, rfl⟩, .inl ⟨rfl, rfl⟩⟩
            rcases hgood with h | ⟨n, h, _⟩
            · exact .inl h
            · exact .inr ⟨n, h⟩
          · have L10 := L9.same sl
            obtain ⟨dx1, hob1⟩ := id L10.fl.ob
            refine ⟨_, rfl, _, rfl, p, "fail", cv, .int 0, .non, dx1, _, rfl, hob1, hno, .inr (.inr (.inr (.inl ⟨rfl, fun E' he => ⟨p, w, c, as, ws, ps, pw, rm, it, cv, rfl, L10.fl, .inr ⟨?_, he.1 _ fun l2 hl2 => ?_⟩⟩⟩)))⟩
            · rcases hcc with ⟨h, _⟩ | ⟨_, h | rfl⟩
              · omega
              · exact .inl h
              · exact .inr ⟨(by intro z; cases z), _, false, false, .base (.str _), kit_ty (by decide +kernel), kit_ty (by decide +kernel), rfl⟩
            · have s2 := same_new (o := .lst [.str "refused", .bl true]) hl2
              exact ⟨some cv, v15, .ref l2, .ref l, ⟨w, c, as, bs, ws, ps, hs, pw, rm, it, w2, L10.same s2, rfl⟩, same_ref upd_same (s2 _ _ hl) (.inl rfl)⟩
        · -- cut
          rw [str_eqF (show ¬ ("cut" : Str) = "fail" by decide +kernel)]
          refine iteF ⟨_, rfl, rfl, _, rfl, ?_⟩
          rw [str_eqT]
          refine iteT ?_
          obtain ⟨ch, hch⟩ := chs8 (pic % 8).toNat (by omega)
          refine ⟨_, rfl, by show 8 ≤ sizeLine; decide, fun l3 hl3 => ?_⟩
          refine ⟨_, rfl, _, _, rfl, rfl, (by show (0 : Int) < 8; decide), l3, _, _, .int ch, rfl, rfl, SqL.of upd_same, at_of (show pic % 8 = (((pic % 8).toNat : Nat) : Int) by omega) hch, ?_⟩
          have L9 := L8.same (same_new (o := .lst [.int 0, .int 1, .int 2, .int 0, .int 1, .int 2, .int 3, .int (-1)]) hl3)
          generalize upd H9 l3 (.lst [.int 0, .int 1, .int 2, .int 0, .int 1, .int 2, .int 3, .int (-1)]) = H10 at L9
          refine ⟨_, rfl, _, rfl, _, rfl, _, rfl, hd, wl, wd, ch, bs, ws, hs, rm, pw, w2, rfl, L9.he, L9.wo, L9.d5, ?_⟩
          have tel : ∀ (H1 : Hp) (F1 : FlashAt C H1 p w c as ws ps pw rm it) (Q1 : VK), (∀ dx1, H1 p = some (.ins C dx1 (ff (ps.length : Int) w c pw rm it)) → ∀ E', ErrTo CN CP Q1 E' → spCut C CN [.ref p, .int ch] H1 Q1 E') → spDo K C CN CP [.ref p, .str "cut", .int ch, .int 0, .non] H1 Q1 E0 := fun H1 F1 Q1 k => by
            obtain ⟨dx1, hob1⟩ := id F1.ob
            exact ⟨p, "cut", .int ch, .int 0, .non, dx1, _, rfl, hob1, hno, .inr (.inr (.inr (.inr ⟨rfl, k dx1 hob1⟩)))⟩
          by_cases hc : 0 ≤ ch ∧ ch ≤ 2
          · by_cases hz : it = .non ∨ ch = 0
            · -- nothing is decided
              have hw2 : w2 = .non ∨ ch = 0 := by
                rcases L9.pe with ⟨h1, h2⟩ | ⟨_, t, t', _, _, _, _, _, h1, h2, _⟩
                · exact .inl h2
                · exact .inr (hz.resolve_left (by rw [h1]; intro z; cases z))
              refine .inr (.inl ⟨hc.1, hc.2, w2_of L9.pe, hw2, fun H1 e1 o1 t1 => ?_⟩)
              have F1 := L9.fl.off o1 t1 (fun x hx hm => by rw [List.mem_singleton.mp hm] at hx; exact L9.d4 hx)
              have E1 := L9.he.off o1 t1 (fun x hx hm => by rw [List.mem_singleton.mp hm] at hx; exact L9.d5 hx)
              refine ⟨_, rfl, _, rfl, ?_⟩
              refine tel H1 F1 _ fun dx1 hob1 E' he => ⟨p, w, c, as, ws, ps, pw, rm, it, ch, rfl, F1, .inr (.inl ⟨hc.1, hc.2, ?_, hz, fun H2 F2 o2 t2 => ?_⟩)⟩
              · rcases L9.pe with ⟨h1, h2⟩ | ⟨_, t, t', act, b', g', rf, rh, h1, h2, h3, h4, h5⟩
                · exact .inl h1
                · rcases h5 with ⟨_, e⟩ | ⟨_, e, _⟩
                  · exact .inr ⟨t, _, h1, t1 _ _ e⟩
                  · exact .inr ⟨t, _, h1, t1 _ _ e⟩
              · exact ⟨v12, some (.int ch), .non, .non, ⟨w, c, as, bs, ws, ps, hs, true, .non, .non, .non, L9.step E1 (offM o1 (fun x hx => by rw [List.mem_singleton.mp hx]; exact List.mem_cons_self)) t1 e1 (fun x hx => .inl hx) F2 (offM o2 (fun x hx => by rw [List.mem_singleton.mp hx]; exact List.mem_cons_self)) t2 (fun x hx => .inl hx)
                  ((L9.rel.mono t1).mono t2) (.inl rfl) (.inl ⟨rfl, rfl⟩) L9.l8, rfl⟩, .inl ⟨rfl, rfl⟩⟩
            · have hit : it ≠ .non := fun z => hz (.inl z)
              have hch0 : 0 < ch := by
                have : ch ≠ 0 := fun z => hz (.inr z)
                omega
              have oall : ∀ {Ha Hb Hc : Hp}, Off (wl :: hd :: bs) Ha Hb → Off [wd] Hb Hc → Off (wd :: wl :: hd :: bs) Ha Hc := fun o1 o2 => offM (offT o1 o2) (fun x hx => by
                rcases List.mem_append.mp hx with h | h
                · exact List.mem_cons_of_mem _ h
                · rw [List.mem_singleton.mp h]; exact List.mem_cons_self)
              have dwd : ∀ {xs : List Addr}, wd ∉ xs → ∀ x ∈ xs, x ∉ [wd] := fun h x hx hm => by rw [List.mem_singleton.mp hm] at hx; exact h hx
              rcases L9.pe with ⟨h1, h2⟩ | ⟨hpw, t, t', act, b', g', rf, rh, rfl, rfl, h3, h4, h5⟩
              · exact absurd h1 hit
              rcases h5 with ⟨rfl, h5⟩ | ⟨rfl, h5, hpp, hg8', vs1, hvs1, hl1⟩
              · -- an erase
                have er : recV "erase" rh = .non := if_neg s_ep
                have hcc : cutV' ch .non = .non ∨ PgN H10 (cutV' ch .non) := by
                  unfold cutV'
                  split
                  · exact .inl rfl
                  · exact .inr (.inl rfl)
                refine .inr (.inr ⟨hch0, hc.2, t', "erase", b', g', rh, rfl, h3, by rw [← L9.rel.len]; exact h4, ?_⟩)
                rw [er]
                refine .inr ⟨s_ep, hcc, fun q H1 wv hq hw E1 o1 t1 H2 e2 o2 t2 => ?_⟩
                have nq : wd ∉ (wl :: hd :: bs.set b' q) := fun hm => by
                  have hwdq : wd ≠ q := ne_of_none L9.wo hq
                  rcases List.mem_cons.mp hm with h | hm
                  · exact L9.d5 (h ▸ List.mem_cons_self)
                  rcases List.mem_cons.mp hm with h | hm
                  · exact L9.d5 (h ▸ List.mem_cons_of_mem _ List.mem_cons_self)
                  rcases mem_set_of hm with h | h
                  · exact hwdq h
                  · exact L9.d5 (List.mem_cons_of_mem _ (List.mem_cons_of_mem _ h))
                have E2 := E1.off o2 t2 (dwd nq)
                have F2 := (L9.fl.off o1 t1 (fun x hx hn => L9.d3 x hx hn)).off o2 t2 (dwd L9.d4)
                have t12 := t1.trans t2
                refine ⟨_, rfl, _, rfl, ?_⟩
                refine tel H2 F2 _ fun dx1 hob1 E' he => ⟨p, w, c, as, ws, ps, pw, rm, .ref t, ch, rfl, F2, .inr (.inr ⟨hch0, hc.2, t, b', .non, .non, rfl, t12 _ _ h5, h4, .inl ⟨rfl, hcc.imp id (fun z => z.mono t12), fun q' H3 wv' hq' hw' F3 o3 t3 => ?_⟩⟩)⟩
                rw [hw] at hw'; cases hw'
                have hre : RowR H3 (era (cutV' ch .non)) (era (cutV' ch .non)) := by
                  unfold cutV'
                  split
                  · exact .nil
                  · exact RowR.rep (.inl ⟨rfl, rfl⟩) 8
                exact ⟨v12, some (.int ch), .non, .non, ⟨w, c, as.set b' q', bs.set b' q, _, _, _, true, .non, .non, .non, L9.step E2 (oall o1 o2) t12 e2 (fun x hx => by
                  rcases mem_set_of hx with h | h
                  · exact .inr (by rw [h]; exact hq)
                  · exact .inl h) F3 o3 t3 (fun x hx => by
                  rcases mem_set_of hx with h | h
                  · exact .inr (by rw [h]; exact hq')
                  · exact .inl h)
                  (((L9.rel.mono t12).mono t3).set hre b') (.inl rfl) (.inl ⟨rfl, rfl⟩) (by rw [List.length_set]; exact L9.l8), rfl⟩, .inl ⟨rfl, rfl⟩⟩
              · -- a record
                have er : recV "program" rh = rh := if_pos rfl
                have hb' : b' < hs.length := by rw [← L9.rel.len]; exact h4
                obtain ⟨us1, hus1⟩ : ∃ us, hs[b']? = some us := ⟨_, List.getElem?_eq_getElem hb'⟩
                obtain ⟨vs1', hvs1', hr1'⟩ := L9.rel.get hus1
                rw [hvs1] at hvs1'; cases hvs1'
                have hpp2 : PP H10 (cutV' ch rf) (cutV' ch rh) := by
                  unfold cutV'
                  split
                  · exact hpp
                  · exact .inl ⟨rfl, rfl⟩
                refine .inr (.inr ⟨hch0, hc.2, t', "program", b', g', rh, rfl, h3, hb', ?_⟩)
                rw [er]
                have hlu : us1.length = g' := by rw [← hr1'.len]; exact hl1
                refine .inl ⟨rfl, us1, hus1, by rw [hlu], by omega, hpp2.right, fun H1 E1 o1 t1 H2 e2 o2 t2 => ?_⟩
                have E2 := E1.off o2 t2 (dwd L9.d5)
                have F2 := (L9.fl.off o1 t1 (fun x hx hn => L9.d3 x hx hn)).off o2 t2 (dwd L9.d4)
                have t12 := t1.trans t2
                refine ⟨_, rfl, _, rfl, ?_⟩
                refine tel H2 F2 _ fun dx1 hob1 E' he => ⟨p, w, c, as, ws, ps, pw, rm, .ref t, ch, rfl, F2, .inr (.inr ⟨hch0, hc.2, t, b', .int (g' : Int), rf, rfl, t12 _ _ h5, h4, .inr ⟨vs1, hvs1, by rw [hl1], by omega, (hpp2.mono t12).left, fun H3 F3 o3 t3 => ?_⟩⟩)⟩
                exact ⟨v12, some (.int ch), .non, .non, ⟨w, c, as, bs, ws, _, _, true, .non, .non, .non, L9.step E2 (oall o1 o2) t12 e2 (fun x hx => .inl hx) F3 o3 t3 (fun x hx => .inl hx)
                  (((L9.rel.mono t12).mono t3).set (((hr1'.mono t12).mono t3).snoc ((hpp2.mono t12).mono t3)) b') (.inl rfl) (.inl ⟨rfl, rfl⟩) (by rw [List.length_set]; exact L9.l8), rfl⟩, .inl ⟨rfl, rfl⟩⟩
          · refine .inl ⟨hc, fun l H1 hl s1 e1 => ?_⟩
            have L10 := L9.same s1
            refine ⟨_, rfl, _, rfl, ?_⟩
            refine tel H1 L10.fl _ fun dx1 hob1 E' he => ⟨p, w, c, as, ws, ps, pw, rm, it, ch, rfl, L10.fl, .inl ⟨hc, he.1 _ fun l2 hl2 => ?_⟩⟩
            have s2 := same_new (o := .lst [.str "refused", .bl true]) hl2
            exact ⟨v12, some (.int ch), .ref l2, .ref l, ⟨w, c, as, bs, ws, ps, hs, pw, rm, it, w2, L10.same s2, rfl⟩, same_ref upd_same (s2 _ _ e1) (.inl rfl)⟩
      rintro σ10 H10 ⟨v12, v15, told, due, ⟨w, c, as, bs, ws, ps, hs, pw, rm, it, w2, L10, rfl⟩, hsame⟩
      -- what is told is due; the wears and the pages
      refine ⟨_, rfl, _, rfl, nil_ ?_⟩
      refine SameOk.sp hsame ?_
      refine ⟨true, rfl, iteF ?_⟩
      obtain ⟨dx, hob⟩ := id L10.fl.ob
      have hlw : ws.length = 8 := L10.fl.lw.trans L10.l8
      have hbw : b < ws.length := by omega
      have hwv : ws[b]? = some ws[b] := List.getElem?_eq_getElem hbw
      have hlh : hs.length = 8 := by rw [← L10.rel.len]; exact L10.l8
      have hbh : b < hs.length := by omega
      obtain ⟨us, hus⟩ : ∃ us, hs[b]? = some us := ⟨_, List.getElem?_eq_getElem hbh⟩
      obtain ⟨vs, hvs, hrr⟩ := L10.rel.get hus
      refine ⟨_, rfl, p, dx, _, rfl, hob, ff_no (by decide +kernel), _, rfl, p, w, c, as, ws, ps, pw, rm, it, _, rfl, L10.fl, fun hn' => absurd ⟨by omega, by have := L10.l8; omega⟩ hn', fun j wv e1 e2 => ?_⟩
      obtain rfl : j = b := by omega
      rw [hwv] at e2; cases e2
      refine ⟨_, rfl, _, rfl, wl, _, _, _, rfl, rfl, SqL.of L10.he.wr, atI_nat (get_map hwv), rfl, _, rfl, ?_⟩
      rw [decide_eq_true rfl]
      refine iteF ?_
      refine ⟨_, rfl, p, dx, _, rfl, hob, ff_no (by decide +kernel), p, w, c, as, ws, ps, pw, rm, it, rfl, L10.fl, by have := L10.l8; omega, fun r H11 s11 IM => ?_⟩
      have L11 := L10.same s11
      obtain ⟨_, tr, i1, i2, i3⟩ := IM
      have hbt : j < tr.length := by have := L10.l8; omega
      obtain ⟨wv', c', vs', a1, a2, a3, a4, _, _⟩ := i3 j tr[j] (List.getElem?_eq_getElem hbt)
      rw [hwv] at a1; cases a1
      rw [hvs] at a2; cases a2
      obtain ⟨rb, hrb, hrow⟩ := L11.he.gr.at hus
      refine ⟨_, rfl, r, _, _, _, rfl, rfl, SqL.of i1, atI_nat (get_map (List.getElem?_eq_getElem hbt)), _, rfl, _, rfl, wl, _, _, _, rfl, rfl, SqL.of L11.he.wr, atI_nat (get_map hwv), _, rfl, _, rfl, hd, _, _, _, rfl, rfl, SqL.of L11.he.gr.ls, atI_nat (get_map hrb), by show 2 ≤ sizeLine; decide, fun t ht => ?_⟩
      have st := same_new (o := .tup [.int ws[j], .ref rb]) ht
      obtain ⟨ds, d1, d2, d3, d4⟩ := ((hrr.mono (same_tups s11)).mono (same_tups st)).row_dp (K := K)
      have sh : SeqAt.shaped (.tuple [.int ws[j], .list ds]) = true := shaped_of (by simp [PyData.canLay0, PyData.canLayAll0, d3]) (by simp only [PyData.depth, PyData.depthAll]; omega)
      refine ⟨.tuple [.int ws[j], .list ds], .tuple [.int ws[j], .list ds], .tup (SqT.of (st _ _ a3)) (.cons (.int _) (.cons (.lst (SqL.of (st _ _ a4)) d1) .nil)), .tup (SqT.of upd_same) (.cons (.int _) (.cons (.lst (SqL.of (st _ _ hrow)) d2) .nil)), sh, sh, _, rfl, ?_⟩
      rw [SeqAt.eqv_refl _ (SeqAt.canLay_of_shaped sh)]
      exact iteF ⟨_, _, _, _, _, _, _, _, _, _, w, c, as, bs, ws, ps, hs, pw, rm, it, w2, L11.same st, rfl⟩
    · rintro σ H7 ⟨v3, v7, v8, v9, v10, v11, v12, v13, v14, v15, w, c, as, bs, ws, ps, hs, pw, rm, it, w2, L7, rfl⟩
      have hlw : ws.length = 8 := L7.fl.lw.trans L7.l8
      have hlh : hs.length = 8 := by rw [← L7.rel.len]; exact L7.l8
      have hlb : bs.length = 8 := L7.he.gr.len.trans hlh
      obtain ⟨dx, hob⟩ := id L7.fl.ob
      refine ⟨_, rfl, p, dx, _, rfl, hob, ff_no (by decide +kernel), p, w, c, as, ws, ps, pw, rm, it, rfl, L7.fl, by have := L7.l8; omega, fun r H8 s8 IM => ?_⟩
      have L8 := L7.same s8
      refine ⟨8, rfl, by decide, by decide, fun D hD => ?_⟩
      refine lc_range (lo := 0) (n := 8) (fun i H' => i ≤ 8 ∧ Same H8 H' ∧ ∃ tr : List Addr, H' D = some (.lst (tr.map V.ref)) ∧ tr.length = i ∧
        ∀ (i : Nat) (t : Addr), tr[i]? = some t → ∃ (wv : Int) (b : Addr), ws[i]? = some wv ∧ bs[i]? = some b ∧ H' t = some (.tup [.int wv, .ref b])) ⟨Nat.zero_le _, same_new hD, [], upd_same, rfl, fun i t h => by simp at h⟩ ?_ ?_
      · rintro i H' hi ⟨_, sm, tr, hDl, hl, ht⟩
        have hiw : i < ws.length := by omega
        have hib : i < bs.length := by omega
        have hwv : ws[i]? = some ws[i] := List.getElem?_eq_getElem hiw
        have hbv : bs[i]? = some bs[i] := List.getElem?_eq_getElem hib
        have HE2 := L8.he.same sm
        refine ⟨rfl, yesIte ?_⟩
        have e0 : (0 : Int) + (i : Int) = (i : Int) := by omega
        refine ⟨_, rfl, _, rfl, wl, _, _, _, rfl, rfl, SqL.of HE2.wr, (by rw [e0]; exact atI_nat (get_map hwv)), _, rfl, _, rfl, hd, _, _, _, rfl, rfl, SqL.of HE2.gr.ls, (by rw [e0]; exact atI_nat (get_map hbv)), by show 2 ≤ sizeLine; decide, fun t ht' => ?_⟩
        have s3 := same_new (o := .tup [.int ws[i], .ref bs[i]]) ht'
        have nDt : D ≠ t := ne_of_none hDl ht'
        refine ⟨_, s3 _ _ hDl, ?_, ?_, ?_, tr ++ [t], ?_, ?_, ?_⟩
        · rw [List.length_map, hl]; exact small1000 (by omega)
        · omega
        · intro x o hx
          rw [upd_ne (ne_of_none hx hD)]
          exact s3 _ _ (sm _ _ hx)
        · rw [upd_same, List.map_append]; rfl
        · rw [List.length_append, hl]; rfl
        · intro m u hu
          by_cases hm : m < tr.length
          · rw [List.getElem?_append_left hm] at hu
            obtain ⟨wv, b, f1, f2, f3⟩ := ht m u hu
            refine ⟨wv, b, f1, f2, ?_⟩
            rw [upd_ne (ne_of f3 hDl (by intro z; cases z))]; exact s3 _ _ f3
          · have hm' : m = tr.length := by
              have := (List.getElem?_eq_some_iff.mp hu).1
              rw [List.length_append] at this
              simp only [List.length_cons, List.length_nil] at this
              omega
            subst hm'
            rw [List.getElem?_append_right (Nat.le_refl _), Nat.sub_self] at hu
            have : t = u := by simpa using hu
            subst this
            rw [hl]
            refine ⟨_, _, hwv, hbv, ?_⟩
            rw [upd_ne nDt.symm, upd_same]
      · rintro H9 ⟨_, s9, tr, hDl, hl, ht⟩
        have L9 := L8.same s9
        have IM9 : ImgAt H9 r ws ps := by
          obtain ⟨tr', i1, i2, i3⟩ := IM.at_
          refine ⟨tr', s9 _ _ i1, i2, fun i t ht => ?_⟩
          obtain ⟨wv, c', vs, a1, a2, a3, a4⟩ := i3 i t ht
          exact ⟨wv, c', vs, a1, a2, s9 _ _ a3, s9 _ _ a4⟩
        have DU9 : ImgAt H9 D ws hs := by
          refine ⟨tr, hDl, by omega, fun i t h => ?_⟩
          obtain ⟨wv, b, a1, a2, a3⟩ := ht i t h
          have hih : i < hs.length := by have := (List.getElem?_eq_some_iff.mp a1).1; omega
          exact ⟨wv, b, hs[i], a1, List.getElem?_eq_getElem hih, a3, L9.he.gr.rows i b _ a2 (List.getElem?_eq_getElem hih)⟩
        obtain ⟨d, sh, eq, g1, g2⟩ := img2 (K := K) L9.rel L9.fl.lw
        refine ⟨d, d, g1 r IM9, g2 D DU9, sh, sh, ?_⟩
        rw [eq]
        exact k H9
end
end Sg

set_option Elab.async false
set_option linter.all false
set_option maxRecDepth 100000
set_option maxHeartbeats 8000000
namespace Sg
open PySem PySem.Spec PyProof.Rows L2
theorem all_mk {l : PySem.W.OpenLaw} {w : World} {K : PySem.W.Frag} {h : Heap} {mg : Str → Option Value} {fa C CN CP CS fW fB fFe fT fA fKd fDo fNx fAp fDu fCu fSm fL fI fRd fPr fEr fWe fFa fCt fIg fKb fKp fPo fOp fCa : Addr} (X : K.In h) (G : h.Ns mainGlobals mg) (hfa : mg "law" = some (.ref fa))
    {odW anW odB anB odFe anFe odT anT odA anA odKd anKd odDo anDo odNx anNx odAp anAp odDu anDu odCu anCu odSm anSm odL anL odI anI odRd anRd odPr anPr odEr anEr odWe anWe odFa anFa odCt anCt odIg anIg odKb anKb odKp anKp odPo anPo odOp anOp odCa anCa : Option Addr} {slW slB slFe slT slA slKd slDo slNx slAp slDu slCu slSm slL slI slRd slPr slEr slWe slFa slCt slIg slKb slKp slPo slOp slCa : Array (Option Value)} {ocW kVW dcW pmW cdW ctW ocB kVB dcB pmB cdB ctB ocFe kVFe dcFe pmFe cdFe ctFe ocT kVT dcT pmT cdT ctT ocA kVA dcA pmA cdA ctA ocKd kVKd dcKd pmKd cdKd ctKd ocDo kVDo dcDo pmDo cdDo ctDo ocNx kVNx dcNx pmNx cdNx ctNx ocAp kVAp dcAp pmAp cdAp ctAp ocDu kVDu dcDu pmDu cdDu ctDu ocCu kVCu dcCu pmCu cdCu ctCu ocSm kVSm dcSm pmSm cdSm ctSm ocL kVL dcL pmL cdL ctL ocI kVI dcI pmI cdI ctI ocRd kVRd dcRd pmRd cdRd ctRd ocPr kVPr dcPr pmPr cdPr ctPr ocEr kVEr dcEr pmEr cdEr ctEr ocWe kVWe dcWe pmWe cdWe ctWe ocFa kVFa dcFa pmFa cdFa ctFa ocCt kVCt dcCt pmCt cdCt ctCt ocIg kVIg dcIg pmIg cdIg ctIg ocKb kVKb dcKb pmKb cdKb ctKb ocKp kVKp dcKp pmKp cdKp ctKp ocPo kVPo dcPo pmPo cdPo ctPo ocOp kVOp dcOp pmOp cdOp ctOp ocCa kVCa dcCa pmCa cdCa ctCa : Value} {tPAGES tMIN_BLOCKS tMAX_BLOCKS tTORN tMOST : Tok}
    (aC : PySem.W.nsIn K mainGlobals "Flash" = some (some (.ref C)))
    (aN : PySem.W.nsIn K mainGlobals "NotValid" = some (some (.ref CN)))
    (aP : PySem.W.nsIn K mainGlobals "PowerOff" = some (some (.ref CP)))
    (aS : PySem.W.nsIn K mainGlobals "SpindleError" = some (some (.ref CS)))
    (aW : PySem.W.nsIn K mainGlobals "is_whole" = some (some (.ref fW)))
    (lW : K.lookup fW = some ⟨ocW, odW, .func (PySem.W.fnOf "is_whole" "is_whole" (defArgs sWhole) (defBody sWhole) (defScope sWhole) .none kVW dcW pmW anW cdW ctW), slW⟩)
    (cW : PySem.W.codeIn K cdW "is_whole" = true)
    (kW : PySem.W.keepIn K (.ref fW) = true)
    (aB : PySem.W.nsIn K mainGlobals "is_between" = some (some (.ref fB)))
    (lB : K.lookup fB = some ⟨ocB, odB, .func (PySem.W.fnOf "is_between" "is_between" (defArgs sBetween) (defBody sBetween) (defScope sBetween) .none kVB dcB pmB anB cdB ctB), slB⟩)
    (cB : PySem.W.codeIn K cdB "is_between" = true)
    (kB : PySem.W.keepIn K (.ref fB) = true)
    (aFe : PySem.W.nsIn K mainGlobals "first_erased" = some (some (.ref fFe)))
    (lFe : K.lookup fFe = some ⟨ocFe, odFe, .func (PySem.W.fnOf "first_erased" "first_erased" (defArgs sFirst) (defBody sFirst) (defScope sFirst) .none kVFe dcFe pmFe anFe cdFe ctFe), slFe⟩)
    (cFe : PySem.W.codeIn K cdFe "first_erased" = true)
    (kFe : PySem.W.keepIn K (.ref fFe) = true)
    (aT : PySem.W.nsIn K mainGlobals "_law_tape" = some (some (.ref fT)))
    (lT : K.lookup fT = some ⟨ocT, odT, .func (PySem.W.fnOf "_law_tape" "_law_tape" (defArgs sTape) (defBody sTape) (defScope sTape) .none kVT dcT pmT anT cdT ctT), slT⟩)
    (cT : PySem.W.codeIn K cdT "_law_tape" = true)
    (kT : PySem.W.keepIn K (.ref fT) = true)
    (aA : PySem.W.nsIn K mainGlobals "_law_at" = some (some (.ref fA)))
    (lA : K.lookup fA = some ⟨ocA, odA, .func (PySem.W.fnOf "_law_at" "_law_at" (defArgs sAt) (defBody sAt) (defScope sAt) .none kVA dcA pmA anA cdA ctA), slA⟩)
    (cA : PySem.W.codeIn K cdA "_law_at" = true)
    (kA : PySem.W.keepIn K (.ref fA) = true)
    (aKd : PySem.W.nsIn K mainGlobals "_law_kind" = some (some (.ref fKd)))
    (lKd : K.lookup fKd = some ⟨ocKd, odKd, .func (PySem.W.fnOf "_law_kind" "_law_kind" (defArgs sKind) (defBody sKind) (defScope sKind) .none kVKd dcKd pmKd anKd cdKd ctKd), slKd⟩)
    (cKd : PySem.W.codeIn K cdKd "_law_kind" = true)
    (kKd : PySem.W.keepIn K (.ref fKd) = true)
    (aDo : PySem.W.nsIn K mainGlobals "_law_do" = some (some (.ref fDo)))
    (lDo : K.lookup fDo = some ⟨ocDo, odDo, .func (PySem.W.fnOf "_law_do" "_law_do" (defArgs sDo) (defBody sDo) (defScope sDo) .none kVDo dcDo pmDo anDo cdDo ctDo), slDo⟩)
    (cDo : PySem.W.codeIn K cdDo "_law_do" = true)
    (kDo : PySem.W.keepIn K (.ref fDo) = true)
    (aNx : PySem.W.nsIn K mainGlobals "_law_next" = some (some (.ref fNx)))
    (lNx : K.lookup fNx = some ⟨ocNx, odNx, .func (PySem.W.fnOf "_law_next" "_law_next" (defArgs sNext) (defBody sNext) (defScope sNext) .none kVNx dcNx pmNx anNx cdNx ctNx), slNx⟩)
    (cNx : PySem.W.codeIn K cdNx "_law_next" = true)
    (kNx : PySem.W.keepIn K (.ref fNx) = true)
    (aAp : PySem.W.nsIn K mainGlobals "_law_apply" = some (some (.ref fAp)))
    (lAp : K.lookup fAp = some ⟨ocAp, odAp, .func (PySem.W.fnOf "_law_apply" "_law_apply" (defArgs sApply) (defBody sApply) (defScope sApply) .none kVAp dcAp pmAp anAp cdAp ctAp), slAp⟩)
    (cAp : PySem.W.codeIn K cdAp "_law_apply" = true)
    (kAp : PySem.W.keepIn K (.ref fAp) = true)
    (aDu : PySem.W.nsIn K mainGlobals "_law_due" = some (some (.ref fDu)))
    (lDu : K.lookup fDu = some ⟨ocDu, odDu, .func (PySem.W.fnOf "_law_due" "_law_due" (defArgs sDue) (defBody sDue) (defScope sDue) .none kVDu dcDu pmDu anDu cdDu ctDu), slDu⟩)
    (cDu : PySem.W.codeIn K cdDu "_law_due" = true)
    (kDu : PySem.W.keepIn K (.ref fDu) = true)
    (aCu : PySem.W.nsIn K mainGlobals "_law_cut" = some (some (.ref fCu)))
    (lCu : K.lookup fCu = some ⟨ocCu, odCu, .func (PySem.W.fnOf "_law_cut" "_law_cut" (defArgs sCutL) (defBody sCutL) (defScope sCutL) .none kVCu dcCu pmCu anCu cdCu ctCu), slCu⟩)
    (cCu : PySem.W.codeIn K cdCu "_law_cut" = true)
    (kCu : PySem.W.keepIn K (.ref fCu) = true)
    (aSm : PySem.W.nsIn K mainGlobals "_law_same" = some (some (.ref fSm)))
    (lSm : K.lookup fSm = some ⟨ocSm, odSm, .func (PySem.W.fnOf "_law_same" "_law_same" (defArgs sSame) (defBody sSame) (defScope sSame) .none kVSm dcSm pmSm anSm cdSm ctSm), slSm⟩)
    (cSm : PySem.W.codeIn K cdSm "_law_same" = true)
    (kSm : PySem.W.keepIn K (.ref fSm) = true)
    (aL : PySem.W.nsIn K mainGlobals "law" = some (some (.ref fL)))
    (lL : K.lookup fL = some ⟨ocL, odL, .func (PySem.W.fnOf "law" "law" (defArgs sLaw) (defBody sLaw) (defScope sLaw) .none kVL dcL pmL anL cdL ctL), slL⟩)
    (cL : PySem.W.codeIn K cdL "law" = true)
    (kL : PySem.W.keepIn K (.ref fL) = true)
    (aI : PySem.W.findIn K (.ref C) "__init__" = some (some (.ref fI)))
    (iI : PySem.W.isFn K (.ref fI) = true)
    (lI : K.lookup fI = some ⟨ocI, odI, .func (PySem.W.fnOf "__init__" "Flash.__init__" (defArgs (cF 0)) (defBody (cF 0)) (defScope (cF 0)) .none kVI dcI pmI anI cdI ctI), slI⟩)
    (cI : PySem.W.codeIn K cdI "Flash.__init__" = true)
    (kI : PySem.W.keepIn K (.ref fI) = true)
    (aRd : PySem.W.findIn K (.ref C) "read" = some (some (.ref fRd)))
    (iRd : PySem.W.isFn K (.ref fRd) = true)
    (lRd : K.lookup fRd = some ⟨ocRd, odRd, .func (PySem.W.fnOf "read" "Flash.read" (defArgs (cF 1)) (defBody (cF 1)) (defScope (cF 1)) .none kVRd dcRd pmRd anRd cdRd ctRd), slRd⟩)
    (cRd : PySem.W.codeIn K cdRd "Flash.read" = true)
    (kRd : PySem.W.keepIn K (.ref fRd) = true)
    (aPr : PySem.W.findIn K (.ref C) "program" = some (some (.ref fPr)))
    (iPr : PySem.W.isFn K (.ref fPr) = true)
    (lPr : K.lookup fPr = some ⟨ocPr, odPr, .func (PySem.W.fnOf "program" "Flash.program" (defArgs (cF 2)) (defBody (cF 2)) (defScope (cF 2)) .none kVPr dcPr pmPr anPr cdPr ctPr), slPr⟩)
    (cPr : PySem.W.codeIn K cdPr "Flash.program" = true)
    (kPr : PySem.W.keepIn K (.ref fPr) = true)
    (aEr : PySem.W.findIn K (.ref C) "erase" = some (some (.ref fEr)))
    (iEr : PySem.W.isFn K (.ref fEr) = true)
    (lEr : K.lookup fEr = some ⟨ocEr, odEr, .func (PySem.W.fnOf "erase" "Flash.erase" (defArgs (cF 3)) (defBody (cF 3)) (defScope (cF 3)) .none kVEr dcEr pmEr anEr cdEr ctEr), slEr⟩)
    (cEr : PySem.W.codeIn K cdEr "Flash.erase" = true)
    (kEr : PySem.W.keepIn K (.ref fEr) = true)
    (aWe : PySem.W.findIn K (.ref C) "wear" = some (some (.ref fWe)))
    (iWe : PySem.W.isFn K (.ref fWe) = true)
    (lWe : K.lookup fWe = some ⟨ocWe, odWe, .func (PySem.W.fnOf "wear" "Flash.wear" (defArgs (cF 4)) (defBody (cF 4)) (defScope (cF 4)) .none kVWe dcWe pmWe anWe cdWe ctWe), slWe⟩)
    (cWe : PySem.W.codeIn K cdWe "Flash.wear" = true)
    (kWe : PySem.W.keepIn K (.ref fWe) = true)
    (aFa : PySem.W.findIn K (.ref C) "fail_after" = some (some (.ref fFa)))
    (iFa : PySem.W.isFn K (.ref fFa) = true)
    (lFa : K.lookup fFa = some ⟨ocFa, odFa, .func (PySem.W.fnOf "fail_after" "Flash.fail_after" (defArgs (cF 5)) (defBody (cF 5)) (defScope (cF 5)) .none kVFa dcFa pmFa anFa cdFa ctFa), slFa⟩)
    (cFa : PySem.W.codeIn K cdFa "Flash.fail_after" = true)
    (kFa : PySem.W.keepIn K (.ref fFa) = true)
    (aCt : PySem.W.findIn K (.ref C) "cut" = some (some (.ref fCt)))
    (iCt : PySem.W.isFn K (.ref fCt) = true)
    (lCt : K.lookup fCt = some ⟨ocCt, odCt, .func (PySem.W.fnOf "cut" "Flash.cut" (defArgs (cF 6)) (defBody (cF 6)) (defScope (cF 6)) .none kVCt dcCt pmCt anCt cdCt ctCt), slCt⟩)
    (cCt : PySem.W.codeIn K cdCt "Flash.cut" = true)
    (kCt : PySem.W.keepIn K (.ref fCt) = true)
    (aIg : PySem.W.findIn K (.ref C) "image" = some (some (.ref fIg)))
    (iIg : PySem.W.isFn K (.ref fIg) = true)
    (lIg : K.lookup fIg = some ⟨ocIg, odIg, .func (PySem.W.fnOf "image" "Flash.image" (defArgs (cF 7)) (defBody (cF 7)) (defScope (cF 7)) .none kVIg dcIg pmIg anIg cdIg ctIg), slIg⟩)
    (cIg : PySem.W.codeIn K cdIg "Flash.image" = true)
    (kIg : PySem.W.keepIn K (.ref fIg) = true)
    (aKb : PySem.W.findIn K (.ref C) "_check_block" = some (some (.ref fKb)))
    (iKb : PySem.W.isFn K (.ref fKb) = true)
    (lKb : K.lookup fKb = some ⟨ocKb, odKb, .func (PySem.W.fnOf "_check_block" "Flash._check_block" (defArgs (cF 8)) (defBody (cF 8)) (defScope (cF 8)) .none kVKb dcKb pmKb anKb cdKb ctKb), slKb⟩)
    (cKb : PySem.W.codeIn K cdKb "Flash._check_block" = true)
    (kKb : PySem.W.keepIn K (.ref fKb) = true)
    (aKp : PySem.W.findIn K (.ref C) "_check_page" = some (some (.ref fKp)))
    (iKp : PySem.W.isFn K (.ref fKp) = true)
    (lKp : K.lookup fKp = some ⟨ocKp, odKp, .func (PySem.W.fnOf "_check_page" "Flash._check_page" (defArgs (cF 9)) (defBody (cF 9)) (defScope (cF 9)) .none kVKp dcKp pmKp anKp cdKp ctKp), slKp⟩)
    (cKp : PySem.W.codeIn K cdKp "Flash._check_page" = true)
    (kKp : PySem.W.keepIn K (.ref fKp) = true)
    (aPo : PySem.W.findIn K (.ref C) "_check_power" = some (some (.ref fPo)))
    (iPo : PySem.W.isFn K (.ref fPo) = true)
    (lPo : K.lookup fPo = some ⟨ocPo, odPo, .func (PySem.W.fnOf "_check_power" "Flash._check_power" (defArgs (cF 10)) (defBody (cF 10)) (defScope (cF 10)) .none kVPo dcPo pmPo anPo cdPo ctPo), slPo⟩)
    (cPo : PySem.W.codeIn K cdPo "Flash._check_power" = true)
    (kPo : PySem.W.keepIn K (.ref fPo) = true)
    (aOp : PySem.W.findIn K (.ref C) "_operate" = some (some (.ref fOp)))
    (iOp : PySem.W.isFn K (.ref fOp) = true)
    (lOp : K.lookup fOp = some ⟨ocOp, odOp, .func (PySem.W.fnOf "_operate" "Flash._operate" (defArgs (cF 11)) (defBody (cF 11)) (defScope (cF 11)) .none kVOp dcOp pmOp anOp cdOp ctOp), slOp⟩)
    (cOp : PySem.W.codeIn K cdOp "Flash._operate" = true)
    (kOp : PySem.W.keepIn K (.ref fOp) = true)
    (aCa : PySem.W.findIn K (.ref C) "_carry_out" = some (some (.ref fCa)))
    (iCa : PySem.W.isFn K (.ref fCa) = true)
    (lCa : K.lookup fCa = some ⟨ocCa, odCa, .func (PySem.W.fnOf "_carry_out" "Flash._carry_out" (defArgs (cF 12)) (defBody (cF 12)) (defScope (cF 12)) .none kVCa dcCa pmCa anCa cdCa ctCa), slCa⟩)
    (cCa : PySem.W.codeIn K cdCa "Flash._carry_out" = true)
    (kCa : PySem.W.keepIn K (.ref fCa) = true)
    (pg : PySem.W.plainGet K C Str.empty = true)
    (hdC : PySem.W.hasDictIn K C = true)
    (po : PySem.W.plainOver K C = true)
    (sa : PySem.W.findIn K (.ref C) "__setattr__" = some (some (.builtin "object.__setattr__")))
    (mk : PySem.W.makesIn K C = true)
    (kc : PySem.W.keepIn K (.ref C) = true)
    (n1 : PySem.W.findIn K (.ref C) "blocks" = some none)
    (n2 : PySem.W.findIn K (.ref C) "_wears" = some none)
    (n3 : PySem.W.findIn K (.ref C) "_contents" = some none)
    (n4 : PySem.W.findIn K (.ref C) "_powered" = some none)
    (n5 : PySem.W.findIn K (.ref C) "_remaining" = some none)
    (n6 : PySem.W.findIn K (.ref C) "_interrupted" = some none)
    (xNe : PySem.W.excIn K CN [.type "ValueError", .type "Exception", .type "BaseException", .type "object"] "ValueError.__new__" = true)
    (kNe : PySem.W.keepIn K (.ref CN) = true)
    (bNe : PySem.W.subIn K (.ref CN) (.type "BaseException") = some true)
    (tNe : PySem.W.typeIn K (.ref CN) = some (.type "type"))
    (sNe : PySem.W.subIn K (.ref CN) (.ref CS) = some true)
    (xPe : PySem.W.excIn K CP [.type "ValueError", .type "Exception", .type "BaseException", .type "object"] "ValueError.__new__" = true)
    (kPe : PySem.W.keepIn K (.ref CP) = true)
    (bPe : PySem.W.subIn K (.ref CP) (.type "BaseException") = some true)
    (tPe : PySem.W.typeIn K (.ref CP) = some (.type "type"))
    (sPe : PySem.W.subIn K (.ref CP) (.ref CS) = some true)
    (iSe : PySem.W.isClsIn K CS = true)
    (bSe : PySem.W.subIn K (.ref CS) (.type "BaseException") = some true)
    (tSe : PySem.W.typeIn K (.ref CS) = some (.type "type"))
    (e1 : PySem.W.findIn K (.ref CN) "__getattribute__" = some (some (.builtin "BaseException.__getattribute__")))
    (e2 : PySem.W.findIn K (.ref CN) "__getattr__" = some none)
    (e3 : PySem.W.hasDictIn K CN = true)
    (e4 : PySem.W.findIn K (.ref CN) "__class__" = some (some (.builtin "object.__class__")))
    (e5 : PySem.W.specialIn K (.builtin "object.__class__") "__get__" = some (some (.builtin "getset_descriptor.__get__")))
    (e6 : PySem.W.takesIn K (.builtin "object.__class__") = some true)
    (e7 : PySem.W.mroIn K CN (.type "object") = some true)
    (q1 : PySem.W.findIn K (.ref CP) "__getattribute__" = some (some (.builtin "BaseException.__getattribute__")))
    (q2 : PySem.W.findIn K (.ref CP) "__getattr__" = some none)
    (q3 : PySem.W.hasDictIn K CP = true)
    (q4 : PySem.W.findIn K (.ref CP) "__class__" = some (some (.builtin "object.__class__")))
    (q7 : PySem.W.mroIn K CP (.type "object") = some true)
    (q8 : PySem.W.kitOne K (.ref CN) (.ref CP) = some false)
    (gTORN : PySem.W.nsIn K mainGlobals "TORN" = some (some (.str "torn" tTORN)))
    (gMOST : PySem.W.nsIn K mainGlobals "MOST_OPERATIONS" = some (some (.int 100000 tMOST)))
    (gPAGES : PySem.W.nsIn K mainGlobals "PAGES" = some (some (.int 8 tPAGES)))
    (gMIN_BLOCKS : PySem.W.nsIn K mainGlobals "MIN_BLOCKS" = some (some (.int 8 tMIN_BLOCKS)))
    (gMAX_BLOCKS : PySem.W.nsIn K mainGlobals "MAX_BLOCKS" = some (some (.int 24 tMAX_BLOCKS)))
    (z_isinstance : PySem.W.nsIn K mainGlobals "isinstance" = some none)
    (z_int : PySem.W.nsIn K mainGlobals "int" = some none)
    (z_bool : PySem.W.nsIn K mainGlobals "bool" = some none)
    (z_range : PySem.W.nsIn K mainGlobals "range" = some none)
    (z_len : PySem.W.nsIn K mainGlobals "len" = some none)
    (z_abs : PySem.W.nsIn K mainGlobals "abs" = some none)
    (z_list : PySem.W.nsIn K mainGlobals "list" = some none)
    (z_tuple : PySem.W.nsIn K mainGlobals "tuple" = some none)
    (z_min : PySem.W.nsIn K mainGlobals "min" = some none)
    : ∃ fd : FuncData, (∀ (s : Shared) (v : Value), BindsTo s fd ⟨[v], []⟩ [("script", v)]) ∧ ∀ base : Heap, K.In base → base.Ns mainGlobals mg → FnOk l.prog w K mg base CX0 7 fa fd ["script"] (spLaw K) := by
  have e := hfa.symm.trans (PySem.W.mg_of X G aL)
  cases e
  have B : Blt mg := ⟨PySem.W.mg_none_of X G z_range, PySem.W.mg_none_of X G z_len, PySem.W.mg_none_of X G z_abs, PySem.W.mg_none_of X G z_int⟩
  have D : Bds mg fW := ⟨PySem.W.mg_none_of X G z_isinstance, PySem.W.mg_none_of X G z_int, PySem.W.mg_none_of X G z_bool, PySem.W.mg_of X G aW⟩
  have T : FT K mg C CN CP CS fW fB := { cl := ⟨pg, hdC, po, sa⟩, n1 := n1, n2 := n2, n3 := n3, n4 := n4, n5 := n5, n6 := n6, gC := PySem.W.mg_of X G aC, gN := PySem.W.mg_of X G aN, xN := xNe, kN := kNe, bN := bNe, tN := tNe, gP := PySem.W.mg_of X G aP, xP := xPe, kP := kPe, bP := bPe, tP := tPe, gS := PySem.W.mg_of X G aS, eN := exm_sub bSe iSe tSe sNe, eP := exm_sub bSe iSe tSe sPe, gB := PySem.W.mg_of X G aB, bd := D, bt := B, lst := PySem.W.mg_none_of X G z_list, tup := PySem.W.mg_none_of X G z_tuple, pag := ⟨_, PySem.W.mg_of X G gPAGES⟩, mnb := ⟨_, PySem.W.mg_of X G gMIN_BLOCKS⟩, mxb := ⟨_, PySem.W.mg_of X G gMAX_BLOCKS⟩ }
  have XC : ExcC K CN := ⟨e1, e2, bNe, e3, e4, e5, e6, e7⟩
  have FW := fun_mk (st := sWhole) lW cW kW
  have FB := fun_mk (st := sBetween) lB cB kB
  have FFe := fun_mk (st := sFirst) lFe cFe kFe
  have FT := fun_mk (st := sTape) lT cT kT
  have FA := fun_mk (st := sAt) lA cA kA
  have FKd := fun_mk (st := sKind) lKd cKd kKd
  have FDo := fun_mk (st := sDo) lDo cDo kDo
  have FNx := fun_mk (st := sNext) lNx cNx kNx
  have FAp := fun_mk (st := sApply) lAp cAp kAp
  have FDu := fun_mk (st := sDue) lDu cDu kDu
  have FCu := fun_mk (st := sCutL) lCu cCu kCu
  have FSm := fun_mk (st := sSame) lSm cSm kSm
  have FL := fun_mk (st := sLaw) lL cL kL
  have FI := fun_mk (st := cF 0) lI cI kI
  have FRd := fun_mk (st := cF 1) lRd cRd kRd
  have FPr := fun_mk (st := cF 2) lPr cPr kPr
  have FEr := fun_mk (st := cF 3) lEr cEr kEr
  have FWe := fun_mk (st := cF 4) lWe cWe kWe
  have FFa := fun_mk (st := cF 5) lFa cFa kFa
  have FCt := fun_mk (st := cF 6) lCt cCt kCt
  have FIg := fun_mk (st := cF 7) lIg cIg kIg
  have FKb := fun_mk (st := cF 8) lKb cKb kKb
  have FKp := fun_mk (st := cF 9) lKp cKp kKp
  have FPo := fun_mk (st := cF 10) lPo cPo kPo
  have FOp := fun_mk (st := cF 11) lOp cOp kOp
  have FCa := fun_mk (st := cF 12) lCa cCa kCa
  have bW := FW.binds (ps := ["value"]) fun _ _ _ _ _ _ us hl => match us, hl with | [_], _ => rfl
  have bB := FB.binds (ps := ["value", "low", "high"]) fun _ _ _ _ _ _ us hl => match us, hl with | [_, _, _], _ => rfl
  have bFe := FFe.binds (ps := ["pages"]) fun _ _ _ _ _ _ us hl => match us, hl with | [_], _ => rfl
  have bT := FT.binds (ps := ["script"]) fun _ _ _ _ _ _ us hl => match us, hl with | [_], _ => rfl
  have bA := FA.binds (ps := ["tape", "k"]) fun _ _ _ _ _ _ us hl => match us, hl with | [_, _], _ => rfl
  have bKd := FKd.binds (ps := ["e"]) fun _ _ _ _ _ _ us hl => match us, hl with | [_], _ => rfl
  have bDo := FDo.binds (ps := ["flash", "act", "block", "page", "record"]) fun _ _ _ _ _ _ us hl => match us, hl with | [_, _, _, _, _], _ => rfl
  have bNx := FNx.binds (ps := ["pages"]) fun _ _ _ _ _ _ us hl => match us, hl with | [_], _ => rfl
  have bAp := FAp.binds (ps := ["held", "wears", "act", "block", "page", "content"]) fun _ _ _ _ _ _ us hl => match us, hl with | [_, _, _, _, _, _], _ => rfl
  have bDu := FDu.binds (ps := ["held", "wears", "world", "act", "block", "page", "record"]) fun _ _ _ _ _ _ us hl => match us, hl with | [_, _, _, _, _, _, _], _ => rfl
  have bCu := FCu.binds (ps := ["held", "wears", "world", "choice"]) fun _ _ _ _ _ _ us hl => match us, hl with | [_, _, _, _], _ => rfl
  have bSm := FSm.binds (ps := ["told", "due"]) fun _ _ _ _ _ _ us hl => match us, hl with | [_, _], _ => rfl
  have bI := FI.binds (ps := ["self", "blocks"]) fun _ _ _ _ _ _ us hl => match us, hl with | [_, _], _ => rfl
  have bRd := FRd.binds (ps := ["self", "block", "page"]) fun _ _ _ _ _ _ us hl => match us, hl with | [_, _, _], _ => rfl
  have bPr := FPr.binds (ps := ["self", "block", "page", "record"]) fun _ _ _ _ _ _ us hl => match us, hl with | [_, _, _, _], _ => rfl
  have bEr := FEr.binds (ps := ["self", "block"]) fun _ _ _ _ _ _ us hl => match us, hl with | [_, _], _ => rfl
  have bWe := FWe.binds (ps := ["self", "block"]) fun _ _ _ _ _ _ us hl => match us, hl with | [_, _], _ => rfl
  have bFa := FFa.binds (ps := ["self", "count"]) fun _ _ _ _ _ _ us hl => match us, hl with | [_, _], _ => rfl
  have bCt := FCt.binds (ps := ["self", "choice"]) fun _ _ _ _ _ _ us hl => match us, hl with | [_, _], _ => rfl
  have bIg := FIg.binds (ps := ["self"]) fun _ _ _ _ _ _ us hl => match us, hl with | [_], _ => rfl
  have bKb := FKb.binds (ps := ["self", "block"]) fun _ _ _ _ _ _ us hl => match us, hl with | [_, _], _ => rfl
  have bKp := FKp.binds (ps := ["self", "block", "page"]) fun _ _ _ _ _ _ us hl => match us, hl with | [_, _, _], _ => rfl
  have bPo := FPo.binds (ps := ["self"]) fun _ _ _ _ _ _ us hl => match us, hl with | [_], _ => rfl
  have bOp := FOp.binds (ps := ["self", "block", "page", "content"]) fun _ _ _ _ _ _ us hl => match us, hl with | [_, _, _, _], _ => rfl
  have bCa := FCa.binds (ps := ["self", "block", "page", "content"]) fun _ _ _ _ _ _ us hl => match us, hl with | [_, _, _, _], _ => rfl
  have mI : Meth K C "__init__" fI := ⟨aI, iI, kI⟩
  have mRd : Meth K C "read" fRd := ⟨aRd, iRd, kRd⟩
  have mPr : Meth K C "program" fPr := ⟨aPr, iPr, kPr⟩
  have mEr : Meth K C "erase" fEr := ⟨aEr, iEr, kEr⟩
  have mWe : Meth K C "wear" fWe := ⟨aWe, iWe, kWe⟩
  have mFa : Meth K C "fail_after" fFa := ⟨aFa, iFa, kFa⟩
  have mCt : Meth K C "cut" fCt := ⟨aCt, iCt, kCt⟩
  have mIg : Meth K C "image" fIg := ⟨aIg, iIg, kIg⟩
  have mKb : Meth K C "_check_block" fKb := ⟨aKb, iKb, kKb⟩
  have mKp : Meth K C "_check_page" fKp := ⟨aKp, iKp, kKp⟩
  have mPo : Meth K C "_check_power" fPo := ⟨aPo, iPo, kPo⟩
  have mOp : Meth K C "_operate" fOp := ⟨aOp, iOp, kOp⟩
  have mCa : Meth K C "_carry_out" fCa := ⟨aCa, iCa, kCa⟩
  refine ⟨PySem.W.fnOf "law" "law" (defArgs sLaw) (defBody sLaw) (defScope sLaw) .none kVL dcL pmL anL cdL ctL, fun s v => .of_eq rfl, fun base _ _ => ?_⟩
  have GB : GBet l.prog w K mg base fB _ := ⟨ok_between FB D FW bW, bB, kB⟩
  have GKb := ok_ckB FKb T GB
  have GKp := ok_ckP FKp T GB GKb bKb mKb
  have GPo := ok_pow (P := l.prog) (wd := w) (base := base) FPo T
  have GCa := ok_carry (P := l.prog) (wd := w) (base := base) FCa T
  have GOp := ok_oper FOp T GPo bPo mPo GCa bCa mCa
  have GFe := ok_first (P := l.prog) (wd := w) (base := base) FFe T
  have GRd := ok_read FRd T GKp bKp mKp GPo bPo mPo
  have GWe := ok_wear FWe T GKb bKb mKb
  have GEr := ok_erase FEr T GKb bKb mKb GOp bOp mOp
  have GPr := ok_prog FPr T GKp bKp mKp GOp bOp mOp GFe bFe kFe (PySem.W.mg_of X G aFe)
  have GIg := ok_image (P := l.prog) (wd := w) (base := base) FIg T
  have GI := ok_init FI T GB
  have XP : ExcC K CP := ⟨q1, q2, bPe, q3, q4, e5, e6, q7⟩
  have gT : ∃ t, mg "TORN" = some (.str "torn" t) := ⟨_, PySem.W.mg_of X G gTORN⟩
  have gM : ∃ t, mg "MOST_OPERATIONS" = some (.int 100000 t) := ⟨_, PySem.W.mg_of X G gMOST⟩
  have GFa := ok_fail FFa T GB gM
  have GCt := ok_cut FCt T GB gT GCa bCa mCa
  have GKd := ok_kind (P := l.prog) (wd := w) (base := base) FKd T XC XP q8
  have GNx := ok_next (P := l.prog) (wd := w) (base := base) FNx B
  have GAp := ok_apply (P := l.prog) (wd := w) (mg := mg) (base := base) FAp
  exact ok_law FL T (PySem.W.mg_none_of X G z_min) gT ⟨ok_tape FT B, bT, kT, PySem.W.mg_of X G aT⟩ ⟨ok_at FA B, bA, kA, PySem.W.mg_of X G aA⟩ ⟨mk, aI, iI, kc⟩ GI bI
    ⟨ok_do FDo T GKd bKd kKd (PySem.W.mg_of X G aKd) GPr bPr mPr GEr bEr mEr GRd bRd mRd GFa bFa mFa GCt bCt mCt, bDo, kDo, PySem.W.mg_of X G aDo⟩ ⟨GNx, bNx, kNx, PySem.W.mg_of X G aNx⟩
    ⟨ok_due FDu GNx bNx kNx (PySem.W.mg_of X G aNx) GAp bAp kAp (PySem.W.mg_of X G aAp), bDu, kDu, PySem.W.mg_of X G aDu⟩
    ⟨ok_cutL FCu GAp bAp kAp (PySem.W.mg_of X G aAp), bCu, kCu, PySem.W.mg_of X G aCu⟩ ⟨ok_same FSm T, bSm, kSm, PySem.W.mg_of X G aSm⟩
    GIg bIg mIg GWe bWe mWe
/-- the law row's walk: at most 63 items -/
theorem walk_law {l : PySem.W.OpenLaw} {q : Program} {loose : List Str} {XP : (Str → Option Value) → Heap → Prop} {YP : World → Heap → Prop} {d : DefRec} {K : Params → PySem.W.Frag} (hn : l.most = some 63) (hdf : d.params.defaults = [])
    (hY : ∀ (w : World) (h : Heap), YP w h → (K w.params).In h)
    (F : ∀ (w : World) (mg : Str → Option Value) (fa : Addr) (h : Heap), (K w.params).In h → h.Ns mainGlobals mg → mg d.name = some (.ref fa) →
      ∃ fd : FuncData, (∀ (s : Shared) (u : Value), BindsTo s fd ⟨[u], []⟩ [("script", u)]) ∧ ∀ base : Heap, (K w.params).In base → base.Ns mainGlobals mg → FnOk l.prog w (K w.params) mg base CX0 7 fa fd ["script"] (spLaw (K w.params))) :
    PySem.W.WalkO q loose XP YP l.row.toRowW d [] (fun f vs => PySem.call f vs) :=
  L2.walk_of (n := 63) (k := 7) (x := "script") (CX := fun _ => CX0) (sp := fun w => spLaw (K w.params)) hn (by decide) hdf ⟨rfl, by decide, by decide⟩ hY F (fun _ _ a ns hl _ hS => ⟨a, ns, rfl, hS, hl, fun _ => rfl⟩) fun _ _ _ _ _ z => z
end Sg

set_option Elab.async false
set_option linter.all false
set_option maxRecDepth 100000
set_option maxHeartbeats 8000000
open PySem PySem.W PyProof.Rows
set_option maxRecDepth 100000 in
set_option maxHeartbeats 0 in
theorem PySem.Challenge.cw_spindlegate_k02_flash_power_holds : PySem.Challenge.rw_spindlegate_k02_flash_power.Holds := by
  w_on; o_law; k_head; (case hw => w_witness2)
  k_fill
  refine Sg.walk_law (l := PySem.Challenge.rw_spindlegate_k02_flash_power) rfl rfl (fun w h Y => PySem.W.kIn_of Y) ?F
  case F =>
    intro w mg fa h KX G hmg
    refine' Sg.all_mk KX G hmg ?aC ?aN ?aP ?aS ?aW ?lW ?cW ?kW ?aB ?lB ?cB ?kB ?aFe ?lFe ?cFe ?kFe ?aT ?lT ?cT ?kT ?aA ?lA ?cA ?kA ?aKd ?lKd ?cKd ?kKd ?aDo ?lDo ?cDo ?kDo ?aNx ?lNx ?cNx ?kNx ?aAp ?lAp ?cAp ?kAp ?aDu ?lDu ?cDu ?kDu ?aCu ?lCu ?cCu ?kCu ?aSm ?lSm ?cSm ?kSm ?aL ?lL ?cL ?kL ?aI ?iI ?lI ?cI ?kI ?aRd ?iRd ?lRd ?cRd ?kRd ?aPr ?iPr ?lPr ?cPr ?kPr ?aEr ?iEr ?lEr ?cEr ?kEr ?aWe ?iWe ?lWe ?cWe ?kWe ?aFa ?iFa ?lFa ?cFa ?kFa ?aCt ?iCt ?lCt ?cCt ?kCt ?aIg ?iIg ?lIg ?cIg ?kIg ?aKb ?iKb ?lKb ?cKb ?kKb ?aKp ?iKp ?lKp ?cKp ?kKp ?aPo ?iPo ?lPo ?cPo ?kPo ?aOp ?iOp ?lOp ?cOp ?kOp ?aCa ?iCa ?lCa ?cCa ?kCa ?pg ?hdC ?po ?sa ?mk ?kc ?n1 ?n2 ?n3 ?n4 ?n5 ?n6 ?xNe ?kNe ?bNe ?tNe ?sNe ?xPe ?kPe ?bPe ?tPe ?sPe ?iSe ?bSe ?tSe ?e1 ?e2 ?e3 ?e4 ?e5 ?e6 ?e7 ?q1 ?q2 ?q3 ?q4 ?q7 ?q8 ?gTORN ?gMOST ?gPAGES ?gMIN_BLOCKS ?gMAX_BLOCKS ?z_isinstance ?z_int ?z_bool ?z_range ?z_len ?z_abs ?z_list ?z_tuple ?z_min
    (case aC => k_is)
    (case aN => k_is)
    (case aP => k_is)
    (case aS => k_is)
    (case aW => k_is)
    (case lW => k_is)
    (case cW => k_is)
    (case kW => k_is)
    (case aB => k_is)
    (case lB => k_is)
    (case cB => k_is)
    (case kB => k_is)
    (case aFe => k_is)
    (case lFe => k_is)
    (case cFe => k_is)
    (case kFe => k_is)
    (case aT => k_is)
    (case lT => k_is)
    (case cT => k_is)
    (case kT => k_is)
    (case aA => k_is)
    (case lA => k_is)
    (case cA => k_is)
    (case kA => k_is)
    (case aKd => k_is)
    (case lKd => k_is)
    (case cKd => k_is)
    (case kKd => k_is)
    (case aDo => k_is)
    (case lDo => k_is)
    (case cDo => k_is)
    (case kDo => k_is)
    (case aNx => k_is)
    (case lNx => k_is)
    (case cNx => k_is)
    (case kNx => k_is)
    (case aAp => k_is)
    (case lAp => k_is)
    (case cAp => k_is)
    (case kAp => k_is)
    (case aDu => k_is)
    (case lDu => k_is)
    (case cDu => k_is)
    (case kDu => k_is)
    (case aCu => k_is)
    (case lCu => k_is)
    (case cCu => k_is)
    (case kCu => k_is)
    (case aSm => k_is)
    (case lSm => k_is)
    (case cSm => k_is)
    (case kSm => k_is)
    (case aL => k_is)
    (case lL => k_is)
    (case cL => k_is)
    (case kL => k_is)
    (case aI => k_is)
    (case iI => k_is)
    (case lI => k_is)
    (case cI => k_is)
    (case kI => k_is)
    (case aRd => k_is)
    (case iRd => k_is)
    (case lRd => k_is)
    (case cRd => k_is)
    (case kRd => k_is)
    (case aPr => k_is)
    (case iPr => k_is)
    (case lPr => k_is)
    (case cPr => k_is)
    (case kPr => k_is)
    (case aEr => k_is)
    (case iEr => k_is)
    (case lEr => k_is)
    (case cEr => k_is)
    (case kEr => k_is)
    (case aWe => k_is)
    (case iWe => k_is)
    (case lWe => k_is)
    (case cWe => k_is)
    (case kWe => k_is)
    (case aFa => k_is)
    (case iFa => k_is)
    (case lFa => k_is)
    (case cFa => k_is)
    (case kFa => k_is)
    (case aCt => k_is)
    (case iCt => k_is)
    (case lCt => k_is)
    (case cCt => k_is)
    (case kCt => k_is)
    (case aIg => k_is)
    (case iIg => k_is)
    (case lIg => k_is)
    (case cIg => k_is)
    (case kIg => k_is)
    (case aKb => k_is)
    (case iKb => k_is)
    (case lKb => k_is)
    (case cKb => k_is)
    (case kKb => k_is)
    (case aKp => k_is)
    (case iKp => k_is)
    (case lKp => k_is)
    (case cKp => k_is)
    (case kKp => k_is)
    (case aPo => k_is)
    (case iPo => k_is)
    (case lPo => k_is)
    (case cPo => k_is)
    (case kPo => k_is)
    (case aOp => k_is)
    (case iOp => k_is)
    (case lOp => k_is)
    (case cOp => k_is)
    (case kOp => k_is)
    (case aCa => k_is)
    (case iCa => k_is)
    (case lCa => k_is)
    (case cCa => k_is)
    (case kCa => k_is)
    (case pg => k_is)
    (case hdC => k_is)
    (case po => k_is)
    (case sa => k_is)
    (case mk => k_is)
    (case kc => k_is)
    (case n1 => k_is)
    (case n2 => k_is)
    (case n3 => k_is)
    (case n4 => k_is)
    (case n5 => k_is)
    (case n6 => k_is)
    (case xNe => k_exc)
    (case kNe => k_is)
    (case bNe => k_is)
    (case tNe => k_is)
    (case sNe => first | rfl | k_is)
    (case xPe => k_exc)
    (case kPe => k_is)
    (case bPe => k_is)
    (case tPe => k_is)
    (case sPe => first | rfl | k_is)
    (case iSe => k_is)
    (case bSe => k_is)
    (case tSe => k_is)
    (case e1 => k_is)
    (case e2 => k_is)
    (case e3 => k_is)
    (case e4 => k_is)
    (case e5 => first | rfl | k_is)
    (case e6 => first | rfl | k_is)
    (case e7 => first | rfl | k_is)
    (case q1 => k_is)
    (case q2 => k_is)
    (case q3 => k_is)
    (case q4 => k_is)
    (case q7 => first | rfl | k_is)
    (case q8 => first | rfl | k_is)
    (case gTORN => k_is)
    (case gMOST => k_is)
    (case gPAGES => k_is)
    (case gMIN_BLOCKS => k_is)
    (case gMAX_BLOCKS => k_is)
    (case z_isinstance => k_is)
    (case z_int => k_is)
    (case z_bool => k_is)
    (case z_range => k_is)
    (case z_len => k_is)
    (case z_abs => k_is)
    (case z_list => k_is)
    (case z_tuple => k_is)
    (case z_min => k_is)

