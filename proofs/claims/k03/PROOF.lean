import PyProof.Rows.All
import Wide.All
import OpenK.AllK
import Wide.FinOn
import HandS.Base
import HandS.Call
import HandS.List
import HandS.Comp
import HandS.Ends
import HandS.Dict
import HandS.Iter
import HandS.Text
import HandS.Words
import HandS.WordsList
import HandS.Steps
import HandS.Evl
import HandS.Exc
import HandS.TryOnly
import HandS.ExcOwn
import HandS.WordsExc
import HandS.IsInst
import HandS.ExcIs
import HandS.Deep
import PySem.Challenge.RW_spindlegate_k03_flash_from_image
set_option Elab.async false
set_option linter.all false
set_option maxRecDepth 100000
set_option maxHeartbeats 4000000
/-! General lemmas: readings of expressions, small heaps, lists. -/
namespace Sg
open PySem PySem.Spec PyProof.Rows L2
section
variable {σ : L2.St} {H : Hp} {ta tb te : TE} {i j : Int} {K : PySem.W.Frag} {x y z : V}
theorem v0 {g : Int → Int → V} (ha : Val ta σ H (.int i)) (hb : Val tb σ H (.int j)) : Val (tOp (rI0 g) ta tb) σ H (g i j) := val_op ha hb fun _ q => ⟨i, j, rfl, rfl, q⟩
theorem vc {C : Int → Int → Prop} {g : Int → Int → V} (ha : Val ta σ H (.int i)) (hb : Val tb σ H (.int j)) (hc : C i j) : Val (tOp (rI C g) ta tb) σ H (g i j) := val_op ha hb fun _ q => ⟨i, j, rfl, rfl, hc, q⟩
theorem vEq (ha : Val ta σ H x) (hb : Val tb σ H y) (hs : scal x y = true) : Val (tOp rEq ta tb) σ H (.bl (decide (x = y))) := val_op ha hb fun _ q => ⟨hs, q⟩
theorem vNe (ha : Val ta σ H x) (hb : Val tb σ H y) (hs : scal x y = true) : Val (tOp rNe ta tb) σ H (.bl (!decide (x = y))) := val_op ha hb fun _ q => ⟨hs, q⟩
theorem vIx {p : Addr} {xs : List V} {n : Nat} (ha : Val ta σ H (.ref p)) (hb : Val tb σ H (.int (n : Int))) (hp : SqL K H p xs) (hn : xs[n]? = some z) : Val (tOp (rIxL K) ta tb) σ H z :=
  val_op ha hb fun _ q => ⟨p, xs, _, z, rfl, rfl, hp, atI_nat hn, q⟩
theorem vIs {v w : V} (h : Val te σ H v) (e : v = w) : Val te σ H w := e ▸ h
/-- a built-in's call of one argument -/
theorem vCB1 {r : List V → Hp → VK → Prop} (ha : Val ta σ H x) (hr : ∀ Q : VK, Q z H → r [x] H Q) : Val (tCB r (tCons ta tNil)) σ H z := fun Q q => ha _ (hr Q q)
theorem vCB2 {r : List V → Hp → VK → Prop} (ha : Val ta σ H x) (hb : Val tb σ H y) (hr : ∀ Q : VK, Q z H → r [x, y] H Q) : Val (tCB r (tCons ta (tCons tb tNil))) σ H z := fun Q q => ha _ (hb _ (hr Q q))
theorem aTest {b : Bool} (h : Val te σ H (.bl b)) : Ans (tTest te) σ H b := fun Q q => h _ ⟨b, rfl, q⟩
end
theorem map_get {α β : Type} {f : α → β} {l : List α} {i : Nat} {y : β} (h : (l.map f)[i]? = some y) : ∃ z, l[i]? = some z ∧ y = f z := by
  rw [List.getElem?_map] at h
  cases e : l[i]? with
  | none =>
    rw [e] at h
    cases h
  | some z =>
    rw [e] at h
    exact ⟨z, rfl, (Option.some.inj h).symm⟩
theorem get_map {α β : Type} {f : α → β} {l : List α} {i : Nat} {z : α} (h : l[i]? = some z) : (l.map f)[i]? = some (f z) := by rw [List.getElem?_map, h]; rfl
theorem upd_two {H : Hp} {a : Addr} {o u : HO} : upd (upd H a o) a u = upd H a u := upd_upd
theorem same_new {H : Hp} {p : Addr} {o : HO} (h : H p = Option.none) : Same H (upd H p o) := fun b u e => by
  rw [upd_ne (ne_of_none e h)]
  exact e
end Sg

set_option Elab.async false
set_option linter.all false
set_option maxRecDepth 100000
set_option maxHeartbeats 4000000
namespace Sg
open PySem PySem.Spec PyProof.Rows L2
/-! ### rules of our own -/
section
variable {X : Cx}
/-- C(), an own exception without an __init__ of its own -/
theorem pmk_own0 {C : Addr} {bmB : List Value} {B newId initId : String} {x : Str} {p pos : Pos} (F : ExcBaseFacts B newId initId bmB) (q : PySem.W.excIn X.K C bmB newId = true) (gC : X.mg x = some (.ref C))
    (kC : PySem.W.keepIn X.K (.ref C) = true) (r : Raises X (.ref C)) (hg : Gl X x) (hdb : (x == ("__debug__" : Str)) = false := by decide) :
    PMk X (.Call (.Name x p) [] [] pos) (fun _ H Q => Q (.ref C) none H) := by
  intro pins s σ H Q I h
  refine wpAny_Call_Name_kw (ld_glob I hg gC ?_ hdb)
  refine PySem.W.callWith_K0 I.kIn kC ?_
  obtain ⟨bm, N, nm, qn, bs, hdct, sn, sub, ab, col, dd, k0, k1, k2, k3, k5, mN, hC, hN, hni, T⟩ := exc_obj I.kIn q
  exact wpAny_call_exc_subT F T hC hN hni (fun h' e hm => mk_of I hm r h (I.hok.gone hm.new)) (Nat.zero_le _)
/-- o[i] of a list, by values, a place in bounds from the left -/
def rGetL (K : PySem.W.Frag) : V → V → Hp → VK → Prop := fun o i H Q => ∃ p xs n v, o = .ref p ∧ i = .int ((n : Nat) : Int) ∧ SqL K H p xs ∧ xs[n]? = some v ∧ Q v H
theorem get_list : PGet X (rGetL X.K) := by
  intro pins s σ H o i ov iv Q I ro ri h
  obtain ⟨p, xs, n, v, rfl, rfl, hq, he, q⟩ := h
  cases ro
  obtain ⟨t, rfl⟩ := ri
  obtain ⟨its, r, pl, hz⟩ := I.list hq
  obtain ⟨w, ew, rw'⟩ := r.get he
  have hl := r.length
  have hn := line63
  have hb := (List.getElem?_eq_some_iff.mp he).1
  exact wpAny_getItem_list pl.isList (by omega) (by omega) (by simpa using ew) ⟨v, H, I, rw', q⟩
/-- l.count(y): how many are equal, data of any depth -/
def rCountD (K : PySem.W.Frag) : V → List V → Hp → VK → Prop := fun x xs H Q => ∃ (a : Addr) (y : V) (d : PyData) (ds : List PyData), x = V.ref a ∧ xs = [y] ∧ Dp K H (V.ref a) (.list ds) ∧ Dp K H y d ∧
  SeqAt.shaped (.list ds) = true ∧ SeqAt.shaped d = true ∧ Q (.int (ds.countP (fun z => PyData.eqv z d) : Nat)) H
theorem mt_countD (hu : X.A.units + 65 < cLine) : MtR X "list.count" (rCountD X.K) := by
  intro pins s σ H x xs v us Q I rx rxs h
  obtain ⟨a, y, d, ds, rfl, rfl, hl, hy, sl, sd, q⟩ := h
  cases rx
  cases rxs with
  | cons ry rt =>
    rename_i uy ut
    cases rt
    obtain ⟨bs, r1⟩ := Dp.reads I d y uy hy ry
    have hxs : PyData.canLayAll0 ds = true := SeqAt.canLay_of_shaped sl
    have hroom : X.A.units + 1 + min (PyData.depthAll ds) d.depth < cLine := room_in_shaped sd hu
    cases hl with
    | lst hs ha =>
      obtain ⟨its, rv, ⟨⟨cls, dd, data, sls⟩, n, ho, hc, hdn, hdt⟩, hlen⟩ := I.list hs
      simp only at hc hdt
      subst hc hdt
      obtain ⟨as, h4⟩ := Dp.readsAll I ds _ its ha rv
      have hmap : its.map (SeqAt.readOf s.heap) = ds := SeqAt.readsAll_map ds its as hxs h4
      refine call_meets PySem.F.slot_list_count ⟨_, ho, rfl⟩ PySem.F.entry_list_count (PySem.F.args_list_count_2 _ _)
        (SeqAt.list_countAt a its.toArray n dd sls uy (fun u => PyData.eqv (SeqAt.readOf s.heap u) d)) ⟨ho, SeqAt.items_eqAt (vs := its.toArray) (show ReadsAll s.heap its.toArray.toList ds as from h4) r1 hxs (SeqAt.canLay_of_shaped sd) hroom, ?_⟩
      have ec : its.toArray.toList.countP (fun u => PyData.eqv (SeqAt.readOf s.heap u) d) = ds.countP (fun z => PyData.eqv z d) := by
        rw [← hmap, List.countP_map]
        rfl
      refine ⟨.int (ds.countP (fun z => PyData.eqv z d) : Nat), H, I.tok _, ⟨s.toks, ?_⟩, q⟩
      show Value.int ((its.toArray.toList.countP (fun u => PyData.eqv (SeqAt.readOf s.heap u) d) : Nat) : Int) s.toks = _
      rw [ec]
/-- isinstance(e, c), e the exception that the suite holds, whatever its class is -/
def rIsX (K : PySem.W.Frag) (a : Addr) (cls : Value) (d : Option Addr) : List V → Hp → VK → Prop := fun xs H Q => ∃ (D : Addr) (c : V) (cv : Value) (b : Bool), cls = .ref D ∧ d = none ∧ ExcC K D ∧ xs = [.ref a, c] ∧ (∀ u, RelV c u → u = cv) ∧ PySem.W.kitOne K (.ref D) cv = some b ∧ Q (.bl b) H
theorem call_isX {a : Addr} {oe : Obj} {cls : Value} {d : Option Addr} {pn : List (Addr × Obj)} (hz : Zc cls d oe) (hf : ∃ vs, oe.data = .fields vs) : CallR (X.suite a ((a, oe) :: pn)) (.builtin "isinstance") (rIsX X.K a cls d) := by
  intro pins s σ H xs us Q I r h
  obtain ⟨D, c, cv, b, rfl, rfl, C, rfl, hcv, e, q⟩ := h
  exact call_isE C hz hf pins s σ H _ us Q I r ⟨c, cv, b, rfl, hcv, e, q⟩
end
/-- an exception of a subclass is what the clause names -/
theorem exm_sub {K : PySem.W.Frag} {S T : Addr} (h1 : PySem.W.subIn K (.ref T) (.type "BaseException") = some true) (h2 : PySem.W.isClsIn K T = true) (h3 : PySem.W.typeIn K (.ref T) = some (.type "type")) (h4 : PySem.W.subIn K (.ref S) (.ref T) = some true) :
    PySem.W.exmOne K (.ref S) (.ref T) = some true := by
  have e1 : (PySem.W.subIn K (.ref T) (.type "BaseException") == some true) = true := by rw [h1] <;> rfl
  have e2 : ((PySem.W.clsIn K T).isSome && PySem.W.typeIn K (.ref T) == some (.type "type")) = true := by
    have h2' : (PySem.W.clsIn K T).isSome = true := h2
    rw [h2', h3] <;> rfl
  show (if (PySem.W.subIn K (.ref T) (.type "BaseException") == some true) = true then (if ((PySem.W.clsIn K T).isSome && PySem.W.typeIn K (.ref T) == some (.type "type")) = true then PySem.W.subIn K (.ref S) (.ref T) else none) else none) = some true
  rw [if_pos e1, if_pos e2]
  exact h4
end Sg

set_option Elab.async false
set_option linter.all false
set_option maxRecDepth 100000
set_option maxHeartbeats 4000000
namespace Sg
open PySem PySem.Spec PyProof.Rows L2
/-! ### pages, rows of pages, grids of rows -/
def flatC : V → Bool
  | .non => true
  | .bl _ => true
  | .int _ => true
  | .str x => PyData.strOk x
  | _ => false
def dFlat : V → PyData
  | .bl b => .bool b
  | .int i => .int i
  | .str x => .str x
  | _ => .none
theorem dFlat_dp {K : PySem.W.Frag} {H : Hp} : ∀ {v : V}, flatC v = true → Dp K H v (dFlat v) ∧ (dFlat v).canLay0 = true ∧ (dFlat v).depth = 0
  | .non, _ => ⟨.non, by simp [dFlat, PyData.canLay0], by simp [dFlat, PyData.depth]⟩
  | .bl b, _ => ⟨.bl b, by simp [dFlat, PyData.canLay0], by simp [dFlat, PyData.depth]⟩
  | .int i, _ => ⟨.int i, by simp [dFlat, PyData.canLay0], by simp [dFlat, PyData.depth]⟩
  | .str x, h => ⟨.str x, by simpa [dFlat, PyData.canLay0, flatC] using h, by simp [dFlat, PyData.depth]⟩
  | .byt _, h => by simp [flatC] at h
  | .flt _, h => by simp [flatC] at h
  | .ref _, h => by simp [flatC] at h
  | .ty _, h => by simp [flatC] at h
theorem flats_dp {K : PySem.W.Frag} {H : Hp} : ∀ {vs : List V}, vs.all flatC = true → DpAll K H vs (vs.map dFlat) ∧ PyData.canLayAll0 (vs.map dFlat) = true ∧ PyData.depthAll (vs.map dFlat) = 0
  | [], _ => ⟨.nil, by simp [PyData.canLayAll0], by simp [PyData.depthAll]⟩
  | v :: vs, h => by
    rw [List.all_cons, Bool.and_eq_true] at h
    obtain ⟨a1, a2, a3⟩ := dFlat_dp (K := K) (H := H) h.1
    obtain ⟨b1, b2, b3⟩ := flats_dp (K := K) (H := H) h.2
    refine ⟨.cons a1 b1, ?_, ?_⟩
    · simp [PyData.canLayAll0, a2, b2]
    · simp only [List.map_cons, PyData.depthAll]; omega
def torn : V := .str "torn"
/-- what a page holds that is not erased -/
def PgN (H : Hp) (v : V) : Prop := v = torn ∨ ∃ t xs, v = .ref t ∧ H t = some (.tup xs) ∧ xs.all flatC = true
theorem PgN.ne {H : Hp} {v : V} (h : PgN H v) : v ≠ .non := by
  rcases h with rfl | ⟨t, xs, rfl, _⟩ <;> (intro e; cases e)
/-- tuples stay -/
def Tups (H H' : Hp) : Prop := ∀ t xs, H t = some (.tup xs) → H' t = some (.tup xs)
theorem same_tups {H H' : Hp} (s : Same H H') : Tups H H' := fun t xs h => s _ _ h
theorem Tups.trans {H H1 H2 : Hp} (a : Tups H H1) (b : Tups H1 H2) : Tups H H2 := fun t xs h => b t xs (a t xs h)
theorem Tups.lst {H : Hp} {a : Addr} {xs : List V} {o : HO} (h : H a = some (.lst xs)) : Tups H (upd H a o) := fun t ys e => by
  rw [upd_ne (ne_of e h (by intro z; cases z))]; exact e
theorem Tups.ins {H : Hp} {a C dx : Addr} {fs : List (Str × V)} {o : HO} (h : H a = some (.ins C dx fs)) : Tups H (upd H a o) := fun t ys e => by
  rw [upd_ne (ne_of e h (by intro z; cases z))]; exact e
theorem Tups.new {H : Hp} {a : Addr} {o : HO} (h : H a = Option.none) : Tups H (upd H a o) := fun t xs e => same_new h _ _ e
theorem PgN.mono {H H' : Hp} {v : V} (s : Tups H H') (h : PgN H v) : PgN H' v := by
  rcases h with rfl | ⟨t, xs, rfl, ht, hx⟩
  · exact .inl rfl
  · exact .inr ⟨t, xs, rfl, s _ _ ht, hx⟩
/-- a page's data -/
theorem PgN.dp {K : PySem.W.Frag} {H : Hp} {v : V} (h : PgN H v) : ∃ d, Dp K H v d ∧ d.canLay0 = true ∧ d.depth ≤ 1 ∧ PyData.eqv d .none = false := by
  rcases h with rfl | ⟨t, xs, rfl, ht, hx⟩
  · exact ⟨.str "torn", .str _, by simp only [PyData.canLay0]; decide +kernel, by simp [PyData.depth], by simp [PyData.eqv]⟩
  · obtain ⟨a1, a2, a3⟩ := flats_dp (K := K) (H := H) hx
    exact ⟨.tuple (xs.map dFlat), .tup (SqT.of ht) a1, by simpa [PyData.canLay0] using a2, by simp [PyData.depth, a3], by simp [PyData.eqv]⟩
/-- the pages of a block: what is programmed, then erased ones -/
def row (vs : List V) : List V := vs ++ List.replicate (8 - vs.length) V.non
theorem row_len {vs : List V} (h : vs.length ≤ 8) : (row vs).length = 8 := by
  unfold row; rw [List.length_append, List.length_replicate]; omega
theorem row_get {vs : List V} {j : Nat} {v : V} (h : vs[j]? = some v) : (row vs)[j]? = some v := by
  unfold row
  rw [List.getElem?_append_left (List.getElem?_eq_some_iff.mp h).1]; exact h
theorem row_non {vs : List V} {j : Nat} (h : vs.length ≤ j) (h8 : j < 8) : (row vs)[j]? = some V.non := by
  unfold row
  rw [List.getElem?_append_right h, List.getElem?_replicate, if_pos (by omega)]
theorem row_set {vs : List V} {v : V} (h : vs.length < 8) : (row vs).set vs.length v = row (vs ++ [v]) := by
  unfold row
  rw [List.set_append_right _ _ (Nat.le_refl _), Nat.sub_self, List.length_append, List.append_assoc]
  congr 1
  obtain ⟨m, hm⟩ : ∃ m, 8 - vs.length = m + 1 := ⟨7 - vs.length, by omega⟩
  have h2 : 8 - (vs.length + [v].length) = m := by simp only [List.length_cons, List.length_nil]; omega
  rw [hm, h2, List.replicate_succ]
  rfl
def PgsN (H : Hp) (vs : List V) : Prop := vs.length ≤ 8 ∧ ∀ v ∈ vs, PgN H v
theorem PgsN.mono {H H' : Hp} {vs : List V} (s : Tups H H') (h : PgsN H vs) : PgsN H' vs := ⟨h.1, fun v hv => (h.2 v hv).mono s⟩
theorem pgs_dp {K : PySem.W.Frag} {H : Hp} : ∀ {vs : List V}, (∀ v ∈ vs, PgN H v) → ∃ ds, DpAll K H vs ds ∧ PyData.canLayAll0 ds = true ∧ PyData.depthAll ds ≤ 1 ∧ ds.countP (fun z => PyData.eqv z .none) = 0
  | [], _ => ⟨[], .nil, by simp [PyData.canLayAll0], by simp [PyData.depthAll], rfl⟩
  | v :: vs, h => by
    obtain ⟨d, a1, a2, a3, a4⟩ := (h v List.mem_cons_self).dp (K := K)
    obtain ⟨ds, b1, b2, b3, b4⟩ := pgs_dp (K := K) (fun v hv => h v (List.mem_cons_of_mem _ hv))
    refine ⟨d :: ds, .cons a1 b1, by simp [PyData.canLayAll0, a2, b2], ?_, ?_⟩
    · simp only [PyData.depthAll]; omega
    · rw [List.countP_cons, b4, a4]; rfl
theorem nons_dp {K : PySem.W.Frag} {H : Hp} : ∀ n : Nat, DpAll K H (List.replicate n V.non) (List.replicate n PyData.none) ∧ PyData.canLayAll0 (List.replicate n PyData.none) = true ∧ PyData.depthAll (List.replicate n PyData.none) = 0 ∧ (List.replicate n PyData.none).countP (fun z => PyData.eqv z .none) = n
  | 0 => ⟨.nil, by simp [PyData.canLayAll0], by simp [PyData.depthAll], rfl⟩
  | n + 1 => by
    obtain ⟨a, b, c, d⟩ := nons_dp (K := K) (H := H) n
    rw [List.replicate_succ, List.replicate_succ]
    refine ⟨.cons .non a, by simp [PyData.canLayAll0, PyData.canLay0, b], by simp [PyData.depthAll, PyData.depth, c], ?_⟩
    rw [List.countP_cons, d, if_pos (by simp [PyData.eqv])]
theorem dpAll_append {K : PySem.W.Frag} {H : Hp} : ∀ {xs ys : List V} {ds es : List PyData}, DpAll K H xs ds → DpAll K H ys es → DpAll K H (xs ++ ys) (ds ++ es)
  | _, _, _, _, .nil, h => h
  | _, _, _, _, .cons a b, h => .cons a (dpAll_append b h)
theorem canLay_append : ∀ {ds es : List PyData}, PyData.canLayAll0 ds = true → PyData.canLayAll0 es = true → PyData.canLayAll0 (ds ++ es) = true
  | [], _, _, h => h
  | d :: ds, es, h, h' => by
    simp only [PyData.canLayAll0, Bool.and_eq_true] at h
    simp only [List.cons_append, PyData.canLayAll0, Bool.and_eq_true]
    exact ⟨h.1, canLay_append h.2 h'⟩
theorem depth_append : ∀ {ds es : List PyData} {n : Nat}, PyData.depthAll ds ≤ n → PyData.depthAll es ≤ n → PyData.depthAll (ds ++ es) ≤ n
  | [], _, _, _, h => h
  | d :: ds, es, n, h, h' => by
    simp only [PyData.depthAll] at h
    simp only [List.cons_append, PyData.depthAll]
    have := depth_append (ds := ds) (es := es) (n := n) (by omega) h'
    omega
/-- a row's data, and how many of its pages are erased -/
theorem row_dp {K : PySem.W.Frag} {H : Hp} {vs : List V} (h : PgsN H vs) : ∃ ds, DpAll K H (row vs) ds ∧ PyData.canLayAll0 ds = true ∧ PyData.depthAll ds ≤ 1 ∧ ds.countP (fun z => PyData.eqv z .none) = 8 - vs.length := by
  obtain ⟨ds, a, b, c, d⟩ := pgs_dp (K := K) h.2
  obtain ⟨a', b', c', d'⟩ := nons_dp (K := K) (H := H) (8 - vs.length)
  refine ⟨_, dpAll_append a a', canLay_append b b', depth_append c (by omega), ?_⟩
  rw [List.countP_append, d, d']; omega
theorem shaped_of {d : PyData} (h : d.canLay0 = true) (h' : d.depth ≤ 64) : SeqAt.shaped d = true := by
  show (d.canLay0 && decide (d.depth ≤ 64)) = true
  rw [Bool.and_eq_true]; exact ⟨h, decide_eq_true h'⟩
theorem shaped_list {ds : List PyData} (h : PyData.canLayAll0 ds = true) (h' : PyData.depthAll ds ≤ 63) : SeqAt.shaped (.list ds) = true :=
  shaped_of (by simpa [PyData.canLay0] using h) (by simp only [PyData.depth]; omega)
/-! ### grids: a list at c of lists at as, whose pages are those of ps -/
structure Grid (H : Hp) (c : Addr) (as : List Addr) (ps : List (List V)) : Prop where
  ls : H c = some (.lst (as.map V.ref))
  len : as.length = ps.length
  nd : as.Nodup
  nc : c ∉ as
  rows : ∀ (i : Nat) (a : Addr) (vs : List V), as[i]? = some a → ps[i]? = some vs → H a = some (.lst (row vs))
theorem Grid.keep {H H' : Hp} {c : Addr} {as : List Addr} {ps : List (List V)} (g : Grid H c as ps) (hc : ∀ o, H c = some o → H' c = some o) (ha : ∀ a ∈ as, ∀ o, H a = some o → H' a = some o) : Grid H' c as ps :=
  ⟨hc _ g.ls, g.len, g.nd, g.nc, fun i a vs h1 h2 => ha a (List.mem_of_getElem? h1) _ (g.rows i a vs h1 h2)⟩
theorem Grid.same {H H' : Hp} {c : Addr} {as : List Addr} {ps : List (List V)} (g : Grid H c as ps) (s : Same H H') : Grid H' c as ps := g.keep (fun o h => s _ _ h) (fun a _ o h => s _ _ h)
theorem Grid.at {H : Hp} {c : Addr} {as : List Addr} {ps : List (List V)} (g : Grid H c as ps) {i : Nat} {vs : List V} (h : ps[i]? = some vs) : ∃ a, as[i]? = some a ∧ H a = some (.lst (row vs)) := by
  have hi : i < as.length := by rw [g.len]; exact (List.getElem?_eq_some_iff.mp h).1
  exact ⟨as[i], List.getElem?_eq_getElem hi, g.rows i _ vs (List.getElem?_eq_getElem hi) h⟩
theorem get_set_cases {α : Type} {l : List α} {i j : Nat} {x y : α} (h : (l.set i x)[j]? = some y) : (j = i ∧ y = x ∧ i < l.length) ∨ (j ≠ i ∧ l[j]? = some y) := by
  rw [List.getElem?_set] at h
  split at h
  · rename_i e
    split at h
    · rename_i h2
      exact .inl ⟨e.symm, (Option.some.inj h).symm, h2⟩
    · cases h
  · rename_i e
    exact .inr ⟨fun z => e z.symm, h⟩
/-- one row changed -/
theorem Grid.prog {H H' : Hp} {c : Addr} {as : List Addr} {ps : List (List V)} (g : Grid H c as ps) {i : Nat} {a : Addr} {vs : List V} (ha : as[i]? = some a) (h1 : H' a = some (.lst (row vs))) (h2 : ∀ b o, b ≠ a → H b = some o → H' b = some o) : Grid H' c as (ps.set i vs) := by
  refine ⟨h2 _ _ (fun e => g.nc (e ▸ List.mem_of_getElem? ha)) g.ls, by rw [List.length_set]; exact g.len, g.nd, g.nc, fun j b ws hb hw => ?_⟩
  rcases get_set_cases hw with ⟨rfl, rfl, _⟩ | ⟨hj, hw⟩
  · rw [ha] at hb; cases hb; exact h1
  · exact h2 _ _ (fun e => hj (nd_ix g.nd hb (by rw [e]; exact ha))) (g.rows j b ws hb hw)
/-- one row replaced by a new list -/
theorem Grid.swap {H H' : Hp} {c : Addr} {as : List Addr} {ps : List (List V)} (g : Grid H c as ps) {i : Nat} {q : Addr} {vs : List V} (hq : H q = Option.none) (h0 : H' c = some (.lst ((as.set i q).map V.ref))) (h1 : H' q = some (.lst (row vs)))
    (h2 : ∀ b ∈ as, ∀ o, H b = some o → H' b = some o) : Grid H' c (as.set i q) (ps.set i vs) := by
  have hqn : ∀ j (b : Addr), as[j]? = some b → b ≠ q := fun j b hb => by
    have hj : j < ps.length := by rw [← g.len]; exact (List.getElem?_eq_some_iff.mp hb).1
    exact ne_of_none (g.rows j b _ hb (List.getElem?_eq_getElem hj)) hq
  refine ⟨h0, by rw [List.length_set, List.length_set]; exact g.len, ?_, ?_, fun j b ws hb hw => ?_⟩
  · rw [List.nodup_iff_pairwise_ne, List.pairwise_iff_getElem]
    intro j k hj hk hlt
    rw [List.length_set] at hj hk
    rw [List.getElem_set, List.getElem_set]
    split
    · split
      · omega
      · exact (hqn k _ (List.getElem?_eq_getElem hk)).symm
    · split
      · exact hqn j _ (List.getElem?_eq_getElem hj)
      · intro e
        have := nd_ix g.nd (List.getElem?_eq_getElem hj) (by rw [e]; exact List.getElem?_eq_getElem hk)
        omega
  · intro hm
    obtain ⟨j, hj⟩ := List.getElem?_of_mem hm
    rcases get_set_cases hj with ⟨_, e, _⟩ | ⟨_, h⟩
    · exact ne_of_none g.ls hq e
    · exact g.nc (List.mem_of_getElem? h)
  · rcases get_set_cases hw with ⟨rfl, rfl, hl⟩ | ⟨hj, hw⟩
    · rcases get_set_cases hb with ⟨_, rfl, _⟩ | ⟨hne, _⟩
      · exact h1
      · exact absurd rfl hne
    · rcases get_set_cases hb with ⟨e, _, _⟩ | ⟨_, hb⟩
      · exact absurd e hj
      · exact h2 b (List.mem_of_getElem? hb) _ (g.rows j b ws hb hw)
def Pgs (H : Hp) (ps : List (List V)) : Prop := ∀ vs ∈ ps, PgsN H vs
theorem Pgs.mono {H H' : Hp} {ps : List (List V)} (s : Tups H H') (h : Pgs H ps) : Pgs H' ps := fun vs hv => (h vs hv).mono s
theorem Pgs.set {H : Hp} {ps : List (List V)} {i : Nat} {vs : List V} (h : Pgs H ps) (hv : PgsN H vs) : Pgs H (ps.set i vs) := fun ws hw => by
  rcases List.mem_or_eq_of_mem_set hw with a | a
  · exact h ws a
  · rw [a]; exact hv
/-! ### images: a list of tuples (wear, list of pages) -/
def ImgAt (H : Hp) (r : Addr) (ws : List Int) (ps : List (List V)) : Prop := ∃ tr : List Addr, H r = some (.lst (tr.map V.ref)) ∧ tr.length = ps.length ∧
  ∀ (i : Nat) (t : Addr), tr[i]? = some t → ∃ (wv : Int) (c : Addr) (vs : List V), ws[i]? = some wv ∧ ps[i]? = some vs ∧ H t = some (.tup [.int wv, .ref c]) ∧ H c = some (.lst (row vs))
theorem img_dps {K : PySem.W.Frag} {H : Hp} : ∀ {ws : List Int} {ps : List (List V)}, Pgs H ps → ws.length = ps.length → ∃ ds, PyData.canLayAll0 ds = true ∧ PyData.depthAll ds ≤ 3 ∧ ∀ tr : List Addr, tr.length = ps.length →
    (∀ (i : Nat) (t : Addr), tr[i]? = some t → ∃ (wv : Int) (c : Addr) (vs : List V), ws[i]? = some wv ∧ ps[i]? = some vs ∧ H t = some (.tup [.int wv, .ref c]) ∧ H c = some (.lst (row vs))) → DpAll K H (tr.map V.ref) ds
  | _, [], _, _ => ⟨[], by simp [PyData.canLayAll0], by simp [PyData.depthAll], fun tr h _ => by
      cases tr with
      | nil => exact .nil
      | cons t tr => simp at h⟩
  | [], _ :: _, _, h => by simp at h
  | wv :: ws, vs :: ps, hp, hl => by
    obtain ⟨rd, r1, r2, r3, _⟩ := row_dp (K := K) (hp vs List.mem_cons_self)
    obtain ⟨ds, a, b, k⟩ := img_dps (K := K) (H := H) (ws := ws) (ps := ps) (fun u hu => hp u (List.mem_cons_of_mem _ hu)) (by simpa using hl)
    refine ⟨.tuple [.int wv, .list rd] :: ds, ?_, ?_, fun tr h1 h2 => ?_⟩
    · simp [PyData.canLayAll0, PyData.canLay0, r2, a]
    · simp only [PyData.depthAll, PyData.depth]; omega
    · cases tr with
      | nil => simp at h1
      | cons t tr =>
        obtain ⟨wv', c, vs', e1, e2, h3, h4⟩ := h2 0 t rfl
        have e1' : wv = wv' := by simpa using e1
        have e2' : vs = vs' := by simpa using e2
        subst e1' e2'
        refine .cons (.tup (SqT.of h3) (.cons (.int _) (.cons (.lst (SqL.of h4) r1) .nil))) (k tr (by simpa using h1) fun i t ht => ?_)
        obtain ⟨w2, c2, v2, f1, f2, f3, f4⟩ := h2 (i + 1) t (by simpa using ht)
        exact ⟨w2, c2, v2, by simpa using f1, by simpa using f2, f3, f4⟩
theorem img_dp {K : PySem.W.Frag} {H : Hp} {ws : List Int} {ps : List (List V)} (hp : Pgs H ps) (hl : ws.length = ps.length) : ∃ d, SeqAt.shaped d = true ∧ PyData.eqv d d = true ∧ ∀ r, ImgAt H r ws ps → Dp K H (.ref r) d := by
  obtain ⟨ds, a, b, k⟩ := img_dps (K := K) hp hl
  have hs := shaped_list a (by omega)
  refine ⟨.list ds, hs, SeqAt.eqv_refl _ (SeqAt.canLay_of_shaped hs), fun r ⟨tr, h1, h2, h3⟩ => ?_⟩
  exact .lst (SqL.of h1) (k tr h2 h3)
end Sg

set_option Elab.async false
set_option linter.all false
set_option maxRecDepth 100000
set_option maxHeartbeats 4000000
namespace Sg
open PySem PySem.Spec PyProof.Rows L2
def top (i : Nat) : Stmt := PySem.Challenge.pw_spindlegate_k03_flash_from_image.main.body.getD i (.Pass ⟨0, 0, 0, 0⟩)
abbrev sTape : Stmt := top 20
abbrev sAt : Stmt := top 21
/-! ### the tape -/
def TapeOk (ts : List Int) : Prop := ∀ t ∈ ts, 0 ≤ t ∧ t < 1000
theorem TapeOk.nil : TapeOk [] := fun t h => by cases h
theorem TapeOk.snoc {ts : List Int} {t : Int} (h : TapeOk ts) (h0 : 0 ≤ t) (h1 : t < 1000) : TapeOk (ts ++ [t]) := fun u hu => by
  rcases List.mem_append.mp hu with a | a
  · exact h u a
  · cases List.mem_singleton.mp a
    exact ⟨h0, h1⟩
theorem TapeOk.at {ts : List Int} (h : TapeOk ts) (k : Nat) : 0 ≤ ts.getD k 0 ∧ ts.getD k 0 < 1000 := by
  rw [List.getD_eq_getElem?_getD]
  cases e : ts[k]? with
  | none => exact ⟨by decide, by decide⟩
  | some t => exact h t (List.mem_of_getElem? e)
/-- what is built-in of the names that the law's helpers use -/
structure Blt (mg : Str → Option Value) : Prop where
  range : mg "range" = none
  len : mg "len" = none
  abs : mg "abs" = none
  int : mg "int" = none
def spTape (K : PySem.W.Frag) : Sp := fun vs H Q _ => ∃ (a : Addr) (ns : List Int), vs = [.ref a] ∧ SqL K H a (ns.map V.int) ∧ ns.length ≤ 63 ∧
  ∀ (p : Addr) (ts : List Int), H p = none → TapeOk ts → ts.length ≤ 3780 → Q (.ref p) (upd H p (.lst (ts.map V.int)))
def spAt (K : PySem.W.Frag) : Sp := fun vs H Q _ => ∃ (p : Addr) (ts : List Int) (k : Nat), vs = [.ref p, .int (k : Int)] ∧ SqL K H p (ts.map V.int) ∧ Q (.int (ts.getD k 0)) H
section
variable {P : Program} {w : World} {K : PySem.W.Frag} {mg : Str → Option Value} {base : Heap} {f : Addr} {fd : FuncData}
theorem scTape : FnScope ["script", "tape", "k", "value", "step"] ["script"] (defScope sTape) := ⟨rfl, rfl, rfl, by decide +kernel, rfl, by decide +kernel, by decide +kernel⟩
theorem snocT {H : Hp} {p : Addr} {ts : List Int} {t : Int} : upd (upd H p (.lst (ts.map V.int))) p (.lst (ts.map V.int ++ [V.int t])) = upd H p (.lst ((ts ++ [t]).map V.int)) := by
  rw [upd_upd, List.map_append]; rfl
theorem ok_tape (F : Fun K "_law_tape" "_law_tape" sTape f fd) (B : Blt mg) : FnOk P w K mg base CX0 1 f fd ["script"] (spTape K) := by
  refine F.ok scTape (fun vs H Q E h => ?_) (fun cdv A outer s H vs Q E hr h => ?_)
  · obtain ⟨a, ns, rfl, _⟩ := h
    rfl
  · obtain ⟨a, ns, rfl, hS, hlen, k⟩ := h
    refine ⟨_, pss_cons (ps_set (i := 1) scTape.nd rfl (Or.inl rfl) (pe_lst pa_nil))
      (pss_cons (ps_for PassesOwn.never rfl (pi_range1 (by rfl) B.range (pa_cons (pe_callB call_len_seq (by rfl) B.len PySem.boot_len (pa_cons (pv 0) pa_nil)) pa_nil)) (pg_name (i := 2) scTape.nd rfl (Or.inl rfl))
        (pss_cons (ps_set (i := 3) scTape.nd rfl (Or.inl rfl) (pe_callB call_abs (by rfl) B.abs (by decide +kernel) (pa_cons (pe_callTy call_int1 (by rfl) B.int (by decide +kernel) (pa_cons (pe_ix ix_list (pv 0) (pv 2) (fun _ _ => rfl)) pa_nil)) pa_nil)))
        (pss_one (ps_if (pt_cmpR op_ge (pv 3) (pe_op op_pow pe_int pe_int) (nomark _))
          (pss_one (ps_for PassesOwn.never rfl (pi_range1 (by rfl) B.range (pa_cons pe_int pa_nil)) (pg_name (i := 4) scTape.nd rfl (Or.inl rfl))
            (pss_one (ps_if (pt_cmpR op_gt (pv 3) pe_int (nomark _))
              (pss_cons (ps_expr (pe_bm PySem.F.plainAttrs_list PySem.F.slot_list_append PySem.F.type_list_append mt_append (pv 1) (pa_cons (pe_op op_mod (pv 3) pe_int) pa_nil)))
                (pss_one (ps_set (i := 3) scTape.nd rfl (Or.inl rfl) (pe_op op_fdiv (pv 3) pe_int)))) pss_nil))))
          (pss_one (ps_for PassesOwn.never rfl (pi_range1 (by rfl) B.range (pa_cons pe_int pa_nil)) (pg_name (i := 4) scTape.nd rfl (Or.inl rfl))
            (pss_cons (ps_set (i := 3) scTape.nd rfl (Or.inl rfl) (pe_op op_mod (pe_op op_add (pe_op op_add (pe_op op_mul (pv 3) pe_int) (pe_op op_mul pe_int (pe_op op_add (pv 2) pe_int))) (pe_op op_mul pe_int (pv 4))) pe_int))
            (pss_cons (ps_set (i := 3) scTape.nd rfl (Or.inl rfl) (pe_op op_mod (pe_op op_mul (pv 3) pe_int) pe_int))
            (pss_one (ps_expr (pe_bm PySem.F.plainAttrs_list PySem.F.slot_list_append PySem.F.type_list_append mt_append (pv 1) (pa_cons (pe_op op_mod (pe_op op_fdiv (pv 3) pe_int) pe_int) pa_nil))))))))))))
      (pss_one (ps_ret (pv 1)))), ?_⟩
    refine ⟨by show 0 ≤ sizeLine; decide, fun p hp => ?_⟩
    have s0 : ∀ o, Same H (upd H p o) := fun o => same_new hp
    refine ⟨_, rfl, a, _, rfl, .inl ((s0 _).seq hS), _, rfl, ?_, ?_, ?_⟩
    · rw [List.length_map]; omega
    · rw [List.length_map]; omega
    refine for_range (lo := 0) (fun i σ H' => ∃ (ts : List Int) (v2 v3 v4 : Option V), σ = [some (.ref a), some (.ref p), v2, v3, v4] ∧ H' = upd H p (.lst (ts.map V.int)) ∧ TapeOk ts ∧ ts.length ≤ 60 * i)
      ⟨[], none, none, none, rfl, rfl, TapeOk.nil, by simp⟩ ?_ ?_
    · rintro i σ H' hi ⟨ts, v2, v3, v4, rfl, rfl, ht, hl⟩
      have hi' : i < ns.length := by rw [List.length_map] at hi; omega
      -- value = abs(int(script[k]))
      refine ⟨_, rfl, _, rfl, a, _, _, V.int ns[i], rfl, rfl, (s0 _).seq hS, ?_, .inl ⟨_, rfl, _, rfl, ?_⟩⟩
      · rw [Int.zero_add]
        exact atI_nat (get_map (List.getElem?_eq_getElem hi'))
      have hv : 0 ≤ (if ns[i] < 0 then -ns[i] else ns[i]) := by split <;> omega
      generalize (if ns[i] < 0 then -ns[i] else ns[i]) = v at hv
      -- value >= 10 ** 18
      refine ⟨_, rfl, _, _, rfl, rfl, ⟨by decide, by decide, by decide⟩, _, _, rfl, rfl, _, rfl, ?_⟩
      refine ite2 (fun hc => ?_) (fun hc => ?_)
      · refine ⟨60, rfl, by decide, by decide, ?_⟩
        refine for_range (lo := 0) (n := 60) (fun j σ H' => ∃ (ts' : List Int) (v : Int) (v4 : Option V), σ = [some (.ref a), some (.ref p), some (.int (0 + (i : Int))), some (.int v), v4] ∧ H' = upd H p (.lst (ts'.map V.int)) ∧ TapeOk ts' ∧ ts'.length ≤ 60 * i + j)
          ⟨ts, v, v4, rfl, rfl, ht, by omega⟩ ?_ ?_
        · rintro j σ H' hj ⟨ts', u, v4', rfl, rfl, ht', hl'⟩
          refine ⟨_, rfl, _, _, rfl, rfl, _, rfl, ?_⟩
          refine ite2 (fun hu => ?_) (fun hu => ?_)
          · refine ⟨_, rfl, .inl ⟨rfl, _, SqL.of upd_same⟩, _, rfl, _, _, rfl, rfl, (by show (0 : Int) < 1000; decide), p, _, _, rfl, rfl, upd_same, ?_, ?_⟩
            · rw [List.length_map]; exact Nat.lt_of_le_of_lt (by omega : ts'.length ≤ 3780) (by decide)
            refine ⟨_, rfl, _, _, rfl, rfl, ⟨by decide, by decide⟩, ?_⟩
            refine ⟨ts' ++ [u % 1000], u / 1000, _, rfl, snocT, ht'.snoc (by omega) (by omega), ?_⟩
            rw [List.length_append]; simp only [List.length_cons, List.length_nil]; omega
          · exact ⟨ts', u, _, rfl, rfl, ht', by omega⟩
        · rintro σ H' ⟨ts', u, v4', rfl, rfl, ht', hl'⟩
          exact ⟨ts', _, _, _, rfl, rfl, ht', by omega⟩
      · have hc' : v < 10 ^ 18 := by
          have := of_decide_eq_false (Bool.eq_false_iff.mpr hc)
          have e : (10 : Int) ^ (18 : Int).toNat = 10 ^ 18 := rfl
          omega
        refine ⟨4, rfl, by decide, by decide, ?_⟩
        refine for_range (lo := 0) (n := 4) (fun j σ H' => ∃ (ts' : List Int) (v : Int) (v4 : Option V), σ = [some (.ref a), some (.ref p), some (.int (0 + (i : Int))), some (.int v), v4] ∧ H' = upd H p (.lst (ts'.map V.int)) ∧ TapeOk ts' ∧ ts'.length ≤ 60 * i + j ∧ 0 ≤ v ∧ v < 10 ^ 18)
          ⟨ts, v, v4, rfl, rfl, ht, by omega, hv, hc'⟩ ?_ ?_
        · rintro j σ H' hj ⟨ts', u, v4', rfl, rfl, ht', hl', hu0, hu1⟩
          refine ⟨_, rfl, _, _, rfl, rfl, .inl ⟨by omega, by omega⟩, _, rfl, _, _, rfl, rfl, _, _, rfl, rfl, .inl ⟨by decide, by decide⟩, _, _, rfl, rfl, _, rfl, _, _, rfl, rfl, .inl ⟨by decide, by decide⟩, _, _, rfl, rfl, _, _, rfl, rfl, (by show (0 : Int) < 2147483647; decide), ?_⟩
          refine ⟨_, rfl, _, _, rfl, rfl, .inl ⟨by omega, by omega⟩, _, _, rfl, rfl, (by show (0 : Int) < 2147483647; decide), ?_⟩
          refine ⟨_, rfl, .inl ⟨rfl, _, SqL.of upd_same⟩, _, rfl, _, _, rfl, rfl, ⟨by decide, by decide⟩, _, _, rfl, rfl, (by show (0 : Int) < 1000; decide), p, _, _, rfl, rfl, upd_same, ?_, ?_⟩
          · rw [List.length_map]; exact Nat.lt_of_le_of_lt (by omega : ts'.length ≤ 3780) (by decide)
          refine ⟨ts' ++ [_], _, _, rfl, snocT, ht'.snoc (by omega) (by omega), ?_, by omega, by omega⟩
          rw [List.length_append]; simp only [List.length_cons, List.length_nil]; omega
        · rintro σ H' ⟨ts', u, v4', rfl, rfl, ht', hl', _, _⟩
          exact ⟨ts', _, _, _, rfl, rfl, ht', by omega⟩
    · rintro σ H' ⟨ts, v2, v3, v4, rfl, rfl, ht, hl⟩
      refine ⟨_, rfl, ?_⟩
      exact k p ts hp ht (by rw [List.length_map] at hl; omega)
theorem scAt : FnScope ["tape", "k"] ["tape", "k"] (defScope sAt) := ⟨rfl, rfl, rfl, by decide +kernel, rfl, by decide +kernel, by decide +kernel⟩
theorem ok_at (F : Fun K "_law_at" "_law_at" sAt f fd) (B : Blt mg) : FnOk P w K mg base CX0 1 f fd ["tape", "k"] (spAt K) := by
  refine F.ok scAt (fun vs H Q E h => ?_) (fun cdv A outer s H vs Q E hr h => ?_)
  · obtain ⟨p, ts, k, rfl, _⟩ := h
    rfl
  · obtain ⟨p, ts, k, rfl, hS, q⟩ := h
    refine ⟨_, pss_cons (ps_if (pt_cmpR op_lt (pv 1) (pe_callB call_len_seq (by rfl) B.len PySem.boot_len (pa_cons (pv 0) pa_nil)) (nomark _)) (pss_one (ps_ret (pe_ix ix_list (pv 0) (pv 1) (fun _ _ => rfl)))) pss_nil)
      (pss_one (ps_ret pe_int)), ?_⟩
    refine ⟨_, rfl, _, rfl, p, _, rfl, .inl hS, _, _, rfl, rfl, _, rfl, ?_⟩
    rw [List.length_map]
    rw [List.getD_eq_getElem?_getD] at q
    refine ite2 (fun hc => ?_) (fun hc => ?_)
    · have h1 : k < ts.length := by
        have := of_decide_eq_true hc
        omega
      rw [List.getElem?_eq_getElem h1] at q
      exact ⟨_, rfl, _, rfl, p, _, _, _, rfl, rfl, hS, atI_nat (get_map (List.getElem?_eq_getElem h1)), q⟩
    · have h1 : ts.length ≤ k := by
        have := of_decide_eq_false (Bool.eq_false_iff.mpr hc)
        omega
      rw [List.getElem?_eq_none h1] at q
      exact q
end
end Sg

set_option Elab.async false
set_option linter.all false
set_option maxRecDepth 100000
set_option maxHeartbeats 4000000
namespace Sg
open PySem PySem.Spec PyProof.Rows L2
abbrev sWhole : Stmt := top 2
abbrev sBetween : Stmt := top 4
/-- what the bounds' functions use -/
structure Bds (mg : Str → Option Value) (fW : Addr) : Prop where
  isi : mg "isinstance" = none
  int : mg "int" = none
  bool : mg "bool" = none
  gW : mg "is_whole" = some (.ref fW)
theorem boot_isi : bootBuiltins "isinstance" = some (.builtin "isinstance") := by decide +kernel
theorem kit_ii {K : PySem.W.Frag} : PySem.W.kitOne K (.type "int") (.type "int") = some true := kit_ty (by decide +kernel)
theorem kit_ib {K : PySem.W.Frag} : PySem.W.kitOne K (.type "int") (.type "bool") = some false := kit_ty (by decide +kernel)
def spWhole (K : PySem.W.Frag) : Sp := fun vs H Q _ => ∃ (x : V) (t : Value) (b1 b2 : Bool), vs = [x] ∧ TyX K H x t ∧ PySem.W.kitOne K t (.type "int") = some b1 ∧ PySem.W.kitOne K t (.type "bool") = some b2 ∧ Q (.bl (b1 && !b2)) H
def spBetween (K : PySem.W.Frag) : Sp := fun vs H Q _ => ∃ (x : V) (lo hi : Int), vs = [x, .int lo, .int hi] ∧
  ((∃ i, x = .int i ∧ Q (.bl (decide (lo ≤ i) && decide (i ≤ hi))) H) ∨ (∃ t b1 b2, TyX K H x t ∧ PySem.W.kitOne K t (.type "int") = some b1 ∧ PySem.W.kitOne K t (.type "bool") = some b2 ∧ (b1 && !b2) = false ∧ Q (.bl false) H))
section
variable {P : Program} {w : World} {K : PySem.W.Frag} {mg : Str → Option Value} {base : Heap} {f fW : Addr} {fd fdW : FuncData}
theorem scWhole : FnScope ["value"] ["value"] (defScope sWhole) := ⟨rfl, rfl, rfl, by decide +kernel, rfl, by decide +kernel, by decide +kernel⟩
theorem ok_whole (F : Fun K "is_whole" "is_whole" sWhole f fd) (B : Bds mg fW) : FnOk P w K mg base CX0 1 f fd ["value"] (spWhole K) := by
  refine F.ok scWhole (fun vs H Q E h => ?_) (fun cdv A outer s H vs Q E hr h => ?_)
  · obtain ⟨x, t, b1, b2, rfl, _⟩ := h
    rfl
  · obtain ⟨x, t, b1, b2, rfl, ty, h1, h2, q⟩ := h
    refine ⟨_, pss_one (ps_ret (pe_and (pe_callB call_isi (by rfl) B.isi boot_isi (pa_cons (pv 0) (pa_cons (pe_bltn (v := .ty "int") (by rfl) B.int boot_int rfl) pa_nil)))
      (pe_one (pe_not (pe_callB call_isi (by rfl) B.isi boot_isi (pa_cons (pv 0) (pa_cons (pe_bltn (v := .ty "bool") (by rfl) B.bool boot_bool rfl) pa_nil))))))), ?_⟩
    refine ⟨_, rfl, x, _, t, _, b1, rfl, .ty "int", ty, h1, b1, rfl, ?_⟩
    cases b1 with
    | true => exact iteT ⟨_, rfl, x, _, t, _, b2, rfl, .ty "bool", ty, h2, b2, rfl, q⟩
    | false => exact iteF q
theorem scBetween : FnScope ["value", "low", "high"] ["value", "low", "high"] (defScope sBetween) := ⟨rfl, rfl, rfl, by decide +kernel, rfl, by decide +kernel, by decide +kernel⟩
theorem ok_between (F : Fun K "is_between" "is_between" sBetween f fd) (B : Bds mg fW) (FW : Fun K "is_whole" "is_whole" sWhole fW fdW) (bW : Binds K fdW ["value"] []) : FnOk P w K mg base CX0 2 f fd ["value", "low", "high"] (spBetween K) := by
  have GW : FnOk P w K mg base CX0 1 fW fdW ["value"] (spWhole K) := ok_whole FW B
  refine F.ok scBetween (fun vs H Q E h => ?_) (fun cdv A outer s H vs Q E hr h => ?_)
  · obtain ⟨x, lo, hi, rfl, _⟩ := h
    rfl
  · obtain ⟨x, lo, hi, rfl, h⟩ := h
    refine ⟨_, pss_one (ps_ret (pe_and (pe_call GW hr (by rfl) B.gW FW.kp bW .nil pass0 (pa_cons (pv 0) pa_nil)) (pe_one (pe_chain op_le op_le (pv 1) (pv 0) (pv 2))))), ?_⟩
    rcases h with ⟨i, rfl, q⟩ | ⟨t, b1, b2, ty, h1, h2, hb, q⟩
    · refine ⟨_, rfl, _, _, true, false, rfl, .base (.int i), kit_ii, kit_ib, true, rfl, iteT ?_⟩
      refine ⟨_, rfl, _, rfl, _, _, rfl, rfl, _, rfl, ?_⟩
      by_cases c : lo ≤ i
      · rw [decide_eq_true c] at q
        rw [if_pos (decide_eq_true c)]
        exact ⟨_, rfl, _, _, rfl, rfl, q⟩
      · rw [decide_eq_false c] at q
        rw [if_neg (by rw [decide_eq_false c]; exact Bool.false_ne_true)]
        exact q
    · refine ⟨_, rfl, x, t, b1, b2, rfl, ty, h1, h2, _, rfl, ?_⟩
      rw [hb]
      exact iteF q
end
end Sg

set_option Elab.async false
set_option linter.all false
set_option maxRecDepth 100000
set_option maxHeartbeats 4000000
namespace Sg
open PySem PySem.Spec PyProof.Rows L2
/-! ### the flash -/
abbrev cF (i : Nat) : Stmt := inClass (top 14) i
theorem lk_here {k : Str} {v : V} {r : List (Str × V)} : List.lookup k ((k, v) :: r) = some v := by
  have e : (k == k) = true := beq_self_eq_true k
  simp only [List.lookup, e]
theorem lk_past {k g : Str} {v : V} {r : List (Str × V)} (h : (k == g) = false) : List.lookup k ((g, v) :: r) = List.lookup k r := by
  simp only [List.lookup, h]
theorem put_here {f : Str} {v x : V} {r : List (Str × V)} : putF f v ((f, x) :: r) = (f, v) :: r := if_pos rfl
theorem put_past {f g : Str} {v x : V} {r : List (Str × V)} (h : ¬ g = f) : putF f v ((g, x) :: r) = (g, x) :: putF f v r := if_neg h
/-- the attributes of a flash, in the order in which __init__ stores them -/
def ff (n : Int) (w c : Addr) (pw : Bool) (rm it : V) : List (Str × V) := [("blocks", .int n), ("_wears", .ref w), ("_contents", .ref c), ("_powered", .bl pw), ("_remaining", rm), ("_interrupted", it)]
section
variable {n : Int} {w c : Addr} {pw : Bool} {rm it : V}
theorem ff_blocks : (ff n w c pw rm it).lookup ("blocks" : Str) = some (.int n) := lk_here
theorem ff_wears : (ff n w c pw rm it).lookup ("_wears" : Str) = some (.ref w) := (lk_past (by decide +kernel)).trans lk_here
theorem ff_contents : (ff n w c pw rm it).lookup ("_contents" : Str) = some (.ref c) := (lk_past (by decide +kernel)).trans ((lk_past (by decide +kernel)).trans lk_here)
theorem ff_powered : (ff n w c pw rm it).lookup ("_powered" : Str) = some (.bl pw) := (lk_past (by decide +kernel)).trans ((lk_past (by decide +kernel)).trans ((lk_past (by decide +kernel)).trans lk_here))
theorem ff_remaining : (ff n w c pw rm it).lookup ("_remaining" : Str) = some rm := (lk_past (by decide +kernel)).trans ((lk_past (by decide +kernel)).trans ((lk_past (by decide +kernel)).trans ((lk_past (by decide +kernel)).trans lk_here)))
theorem ff_interrupted : (ff n w c pw rm it).lookup ("_interrupted" : Str) = some it := (lk_past (by decide +kernel)).trans ((lk_past (by decide +kernel)).trans ((lk_past (by decide +kernel)).trans ((lk_past (by decide +kernel)).trans ((lk_past (by decide +kernel)).trans lk_here))))
theorem ff_no {m : Str} (h : [("blocks" : Str), "_wears", "_contents", "_powered", "_remaining", "_interrupted"].all (fun g => !(m == g)) = true) : (ff n w c pw rm it).lookup m = Option.none := by
  simp only [List.all_cons, List.all_nil, Bool.and_true, Bool.and_eq_true, Bool.not_eq_true'] at h
  obtain ⟨h1, h2, h3, h4, h5, h6⟩ := h
  exact (lk_past h1).trans ((lk_past h2).trans ((lk_past h3).trans ((lk_past h4).trans ((lk_past h5).trans ((lk_past h6).trans rfl)))))
theorem ff_putP {b : Bool} : putF "_powered" (.bl b) (ff n w c pw rm it) = ff n w c b rm it := (put_past (by decide +kernel)).trans (congrArg _ ((put_past (by decide +kernel)).trans (congrArg _ ((put_past (by decide +kernel)).trans (congrArg _ put_here)))))
theorem ff_putR {v : V} : putF "_remaining" v (ff n w c pw rm it) = ff n w c pw v it := (put_past (by decide +kernel)).trans (congrArg _ ((put_past (by decide +kernel)).trans (congrArg _ ((put_past (by decide +kernel)).trans (congrArg _ ((put_past (by decide +kernel)).trans (congrArg _ put_here)))))))
theorem ff_putI {v : V} : putF "_interrupted" v (ff n w c pw rm it) = ff n w c pw rm v := (put_past (by decide +kernel)).trans (congrArg _ ((put_past (by decide +kernel)).trans (congrArg _ ((put_past (by decide +kernel)).trans (congrArg _ ((put_past (by decide +kernel)).trans (congrArg _ ((put_past (by decide +kernel)).trans (congrArg _ put_here)))))))))
theorem ff_len : (ff n w c pw rm it).length < 1000 := by show 6 < 1000; decide
end
/-- what was tracked elsewhere than at xs is as it was -/
def Off (xs : List Addr) (H H' : Hp) : Prop := ∀ b o, H b = some o → b ∉ xs → H' b = some o
structure FlashAt (C : Addr) (H : Hp) (p w c : Addr) (as : List Addr) (ws : List Int) (ps : List (List V)) (pw : Bool) (rm it : V) : Prop where
  ob : ∃ dx, H p = some (.ins C dx (ff (ps.length : Int) w c pw rm it))
  wl : H w = some (.lst (ws.map V.int))
  gr : Grid H c as ps
  lw : ws.length = ps.length
  pg : Pgs H ps
  nwc : w ≠ c
  nwa : w ∉ as
/-- what the top has written of the flash's class and the errors -/
theorem FlashAt.same' {C : Addr} {H H' : Hp} {p w c : Addr} {as : List Addr} {ws : List Int} {ps : List (List V)} {pw : Bool} {rm it : V} (F : FlashAt C H p w c as ws ps pw rm it) (s : Same H H') : FlashAt C H' p w c as ws ps pw rm it := by
  obtain ⟨dx, h⟩ := F.ob
  exact ⟨⟨dx, s _ _ h⟩, s _ _ F.wl, F.gr.same s, F.lw, F.pg.mono (same_tups s), F.nwc, F.nwa⟩
structure FT (K : PySem.W.Frag) (mg : Str → Option Value) (C CN CP CS fW fB : Addr) : Prop where
  cl : Cls K C
  n1 : NoAttr K C "blocks"
  n2 : NoAttr K C "_wears"
  n3 : NoAttr K C "_contents"
  n4 : NoAttr K C "_powered"
  n5 : NoAttr K C "_remaining"
  n6 : NoAttr K C "_interrupted"
  gC : mg "Flash" = some (.ref C)
  gN : mg "NotValid" = some (.ref CN)
  xN : PySem.W.excIn K CN [.type "ValueError", .type "Exception", .type "BaseException", .type "object"] "ValueError.__new__" = true
  kN : PySem.W.keepIn K (.ref CN) = true
  bN : PySem.W.subIn K (.ref CN) (.type "BaseException") = some true
  tN : PySem.W.typeIn K (.ref CN) = some (.type "type")
  gP : mg "PowerOff" = some (.ref CP)
  xP : PySem.W.excIn K CP [.type "ValueError", .type "Exception", .type "BaseException", .type "object"] "ValueError.__new__" = true
  kP : PySem.W.keepIn K (.ref CP) = true
  bP : PySem.W.subIn K (.ref CP) (.type "BaseException") = some true
  tP : PySem.W.typeIn K (.ref CP) = some (.type "type")
  gS : mg "SpindleError" = some (.ref CS)
  eN : PySem.W.exmOne K (.ref CN) (.ref CS) = some true
  eP : PySem.W.exmOne K (.ref CP) (.ref CS) = some true
  gB : mg "is_between" = some (.ref fB)
  bd : Bds mg fW
  bt : Blt mg
  lst : mg "list" = Option.none
  tup : mg "tuple" = Option.none
  pag : ∃ t, mg "PAGES" = some (.int 8 t)
  mnb : ∃ t, mg "MIN_BLOCKS" = some (.int 8 t)
  mxb : ∃ t, mg "MAX_BLOCKS" = some (.int 24 t)
def era (v : V) : List V := if v = .non then [] else List.replicate 8 v
theorem row_era (v : V) : row (era v) = List.replicate 8 v := by
  unfold era
  by_cases h : v = .non
  · rw [if_pos h, h]; rfl
  · rw [if_neg h]; rfl
theorem pgs_era {H : Hp} {v : V} (h : v = .non ∨ PgN H v) : PgsN H (era v) := by
  unfold era
  by_cases e : v = .non
  · rw [if_pos e]; exact ⟨by simp, fun u hu => by cases hu⟩
  · rw [if_neg e]
    refine ⟨by simp, fun u hu => ?_⟩
    rw [List.mem_replicate] at hu
    rw [hu.2]
    exact h.resolve_left e
/-- what carrying an operation out makes: pg None: all pages of block b get cv; else the next page of block b gets it -/
def Carried (C : Addr) (H : Hp) (p w c : Addr) (as : List Addr) (ws : List Int) (ps : List (List V)) (pw : Bool) (rm it : V) (b : Nat) (pg cv : V) (Kt : Hp → Prop) : Prop :=
  (pg = .non ∧ (cv = .non ∨ PgN H cv) ∧ ∀ q H' wv, H q = Option.none → ws[b]? = some wv → FlashAt C H' p w c (as.set b q) (ws.set b (wv + 1)) (ps.set b (era cv)) pw rm it → Off (p :: w :: c :: as) H H' → Tups H H' → Kt H') ∨
  (∃ vs, ps[b]? = some vs ∧ pg = .int (vs.length : Int) ∧ vs.length < 8 ∧ PgN H cv ∧ ∀ H', FlashAt C H' p w c as ws (ps.set b (vs ++ [cv])) pw rm it → Off (p :: w :: c :: as) H H' → Tups H H' → Kt H')
def spCarry (C : Addr) : Sp := fun vs H Q _ => ∃ p w c as ws ps pw rm it b pg cv, vs = [.ref p, .int ((b : Nat) : Int), pg, cv] ∧ FlashAt C H p w c as ws ps pw rm it ∧ b < ps.length ∧ Carried C H p w c as ws ps pw rm it b pg cv (Q .non)
section
variable {P : Program} {wd : World} {K : PySem.W.Frag} {mg : Str → Option Value} {base : Heap} {f C CN CP CS fW fB : Addr} {fd fdB fdW : FuncData}
theorem scCarry : FnScope ["self", "block", "page", "content"] ["self", "block", "page", "content"] (defScope (cF 12)) := ⟨rfl, rfl, rfl, by decide +kernel, rfl, by decide +kernel, by decide +kernel⟩
theorem ok_carry (F : Fun K "_carry_out" "Flash._carry_out" (cF 12) f fd) (T : FT K mg C CN CP CS fW fB) : FnOk P wd K mg base CX0 1 f fd ["self", "block", "page", "content"] (spCarry C) := by
  refine F.ok scCarry (fun vs H Q E h => ?_) (fun cdv A outer s H vs Q E hr h => ?_)
  · obtain ⟨p, w, c, as, ws, ps, pw, rm, it, b, pg, cv, rfl, _⟩ := h
    rfl
  · obtain ⟨p, w, c, as, ws, ps, pw, rm, it, b, pg, cv, rfl, FA, hb, k⟩ := h
    obtain ⟨tk, hpag⟩ := T.pag
    obtain ⟨⟨dx, hob⟩, hwl, G, hlw, hpg, nwc, nwa⟩ := id FA
    refine ⟨_, pss_one (ps_if (pt_cmpR op_isN (pv 2) pe_non (nomark _))
      (pss_cons (ps_asg (pe_op op_rep (pe_lst (pa_cons (pv 3) pa_nil)) (pe_glob (v := .int 8) (by rfl) hpag ⟨_, rfl⟩)) (pg_sub (pe_fld (pv 0) rfl) (pv 1) set_list))
        (pss_one (ps_augS (pe_fld (pv 0) rfl) (pv 1) get_list pe_int ip_add set_list)))
      (pss_one (ps_asg (pv 3) (pg_sub (pe_ix ix_list (pe_fld (pv 0) rfl) (pv 1) (fun _ _ => rfl)) (pv 2) set_list)))), ?_⟩
    have hba : b < as.length := by rw [G.len]; exact hb
    have hbw : b < ws.length := by rw [hlw]; exact hb
    have npw : p ≠ w := ne_of hob hwl (by intro z; cases z)
    have npc : p ≠ c := ne_of hob G.ls (by intro z; cases z)
    refine ⟨_, rfl, rfl, _, rfl, ?_⟩
    rcases k with ⟨rfl, hcv, k⟩ | ⟨vs, hvs, rfl, hl8, hcv, k⟩
    · rw [decide_eq_true rfl]
      refine iteT ?_
      refine ⟨_, rfl, by show 1 ≤ sizeLine; decide, fun l hl => ?_⟩
      refine ⟨l, 8, [cv], rfl, rfl, upd_same, by decide, by decide, by show 8 ≤ sizeLine; decide, fun q hq => ?_⟩
      have hrep : (List.replicate (8 : Int).toNat [cv]).flatten = row (era cv) := by rw [row_era]; rfl
      rw [hrep]
      have npl : p ≠ l := ne_of_none hob hl
      have hqH : H q = Option.none := (same_new hl).free hq
      have npq : p ≠ q := ne_of_none hob hqH
      have hob1 : (upd (upd H l (.lst [cv])) q (.lst (row (era cv)))) p = some (.ins C dx (ff (ps.length : Int) w c pw rm it)) := by rw [upd_ne npq, upd_ne npl]; exact hob
      have ncl : c ≠ l := ne_of_none G.ls hl
      have ncq : c ≠ q := ne_of_none G.ls hqH
      have hc1 : (upd (upd H l (.lst [cv])) q (.lst (row (era cv)))) c = some (.lst (as.map V.ref)) := by rw [upd_ne ncq, upd_ne ncl]; exact G.ls
      refine ⟨_, rfl, p, C, dx, _, _, rfl, hob1, T.cl, T.n3, ff_contents, _, rfl, c, _, _, b, rfl, rfl, hc1, Evl.ixN_nat (by rw [List.length_map]; exact hba), ?_⟩
      have hset : (as.map V.ref).set b (V.ref q) = (as.set b q).map V.ref := by rw [List.map_set]
      rw [hset]
      generalize hH2 : upd (upd (upd H l (.lst [cv])) q (.lst (row (era cv)))) c (.lst ((as.set b q).map V.ref)) = H2
      have hwq : w ≠ q := ne_of_none hwl hqH
      have hwl' : w ≠ l := ne_of_none hwl hl
      have hob2 : H2 p = some (.ins C dx (ff (ps.length : Int) w c pw rm it)) := by rw [← hH2, upd_ne npc]; exact hob1
      have hw2 : H2 w = some (.lst (ws.map V.int)) := by rw [← hH2, upd_ne nwc, upd_ne hwq, upd_ne hwl']; exact hwl
      refine ⟨_, rfl, p, C, dx, _, _, rfl, hob2, T.cl, T.n2, ff_wears, _, rfl, w, _, b, .int ws[b], rfl, rfl, SqL.of hw2, get_map (List.getElem?_eq_getElem hbw), _, _, rfl, rfl, w, _, _, b, rfl, rfl, hw2, Evl.ixN_nat (by rw [List.length_map]; exact hbw), ?_⟩
      have hset2 : (ws.map V.int).set b (V.int (ws[b] + 1)) = (ws.set b (ws[b] + 1)).map V.int := by rw [List.map_set]
      rw [hset2]
      have keep : ∀ x o, H x = some o → x ≠ w → x ≠ c → (upd H2 w (.lst ((ws.set b (ws[b] + 1)).map V.int))) x = some o := fun x o hx h1 h2 => by
        rw [upd_ne h1, ← hH2, upd_ne h2, upd_ne (ne_of_none hx hqH), upd_ne (ne_of_none hx hl)]; exact hx
      have tp : Tups H (upd H2 w (.lst ((ws.set b (ws[b] + 1)).map V.int))) := fun t xs ht => keep t _ ht (ne_of ht hwl (by intro z; cases z)) (ne_of ht G.ls (by intro z; cases z))
      refine k q _ ws[b] hqH (List.getElem?_eq_getElem hbw) ⟨⟨dx, ?_⟩, upd_same, ?_, ?_, ?_, nwc, ?_⟩ ?_ tp
      · rw [List.length_set]; exact keep p _ hob npw npc
      · refine G.swap hqH ?_ ?_ ?_
        · rw [upd_ne nwc.symm, ← hH2, upd_same]
        · rw [upd_ne hwq.symm, ← hH2, upd_ne ncq.symm, upd_same]
        · intro x hx o ho
          exact keep x o ho (fun e => nwa (e ▸ hx)) (fun e => G.nc (e ▸ hx))
      · rw [List.length_set, List.length_set]; exact hlw
      · exact (hpg.mono tp).set ((pgs_era hcv).mono tp)
      · intro hm
        obtain ⟨j, hj⟩ := List.getElem?_of_mem hm
        rcases get_set_cases hj with ⟨_, e, _⟩ | ⟨_, e⟩
        · exact hwq e
        · exact nwa (List.mem_of_getElem? e)
      · intro x o ho hx
        simp only [List.mem_cons, not_or] at hx
        exact keep x o ho hx.2.1 hx.2.2.1
    · rw [decide_eq_false (by intro z; cases z)]
      refine iteF ?_
      obtain ⟨a, ha, hrow⟩ := G.at hvs
      refine ⟨_, rfl, _, rfl, p, C, dx, _, _, rfl, hob, T.cl, T.n3, ff_contents, _, rfl, c, _, _, _, rfl, rfl, SqL.of G.ls, atI_nat (get_map ha), _, rfl, a, _, _, vs.length, rfl, rfl, hrow, Evl.ixN_nat (by rw [row_len (by omega)]; exact hl8), ?_⟩
      rw [row_set hl8]
      have tp : Tups H (upd H a (.lst (row (vs ++ [cv])))) := Tups.lst hrow
      have nap : a ≠ p := ne_of hrow hob (by intro z; cases z)
      have nwa' : w ≠ a := fun e => nwa (e ▸ List.mem_of_getElem? ha)
      refine k _ ⟨⟨dx, ?_⟩, ?_, ?_, ?_, ?_, nwc, nwa⟩ ?_ tp
      · rw [List.length_set, upd_ne nap.symm]; exact hob
      · rw [upd_ne nwa']; exact hwl
      · exact G.prog ha upd_same fun x o hx ho => by rw [upd_ne hx]; exact ho
      · rw [List.length_set]; exact hlw
      · refine (hpg.mono tp).set ⟨by rw [List.length_append]; simp only [List.length_cons, List.length_nil]; omega, fun v hv => ?_⟩
        rcases List.mem_append.mp hv with h | h
        · exact ((hpg vs (List.mem_of_getElem? hvs)).2 v h).mono tp
        · rw [List.mem_singleton.mp h]; exact hcv.mono tp
      · intro x o ho hx
        simp only [List.mem_cons, not_or] at hx
        rw [upd_ne (fun e : x = a => hx.2.2.2 (by rw [e]; exact List.mem_of_getElem? ha))]; exact ho
end
end Sg

set_option Elab.async false
set_option linter.all false
set_option maxRecDepth 100000
set_option maxHeartbeats 4000000
namespace Sg
open PySem PySem.Spec PyProof.Rows L2
/-- self has so many blocks -/
def Blk (C : Addr) (H : Hp) (p : Addr) (n : Int) : Prop := ∃ dx fs, H p = some (.ins C dx fs) ∧ fs.lookup ("blocks" : Str) = some (.int n)
theorem FlashAt.blk {C : Addr} {H : Hp} {p w c : Addr} {as : List Addr} {ws : List Int} {ps : List (List V)} {pw : Bool} {rm it : V} (F : FlashAt C H p w c as ws ps pw rm it) : Blk C H p ps.length := by
  obtain ⟨dx, h⟩ := F.ob
  exact ⟨dx, _, h, ff_blocks⟩
def spCkB (C CN : Addr) : Sp := fun vs H Q E => ∃ p n b, vs = [.ref p, .int b] ∧ Blk C H p n ∧ (0 ≤ b ∧ b < n → Q .non H) ∧ (¬ (0 ≤ b ∧ b < n) → E (.ref CN) Option.none H)
def spCkP (C CN : Addr) : Sp := fun vs H Q E => ∃ p n b g, vs = [.ref p, .int b, .int g] ∧ (∃ dx fs, H p = some (.ins C dx fs) ∧ fs.lookup ("blocks" : Str) = some (.int n) ∧ fs.lookup ("_check_block" : Str) = Option.none) ∧
  ((0 ≤ b ∧ b < n) ∧ (0 ≤ g ∧ g < 8) → Q .non H) ∧ (¬ ((0 ≤ b ∧ b < n) ∧ (0 ≤ g ∧ g < 8)) → E (.ref CN) Option.none H)
def spPow (C CP : Addr) : Sp := fun vs H Q E => ∃ p pw dx fs, vs = [.ref p] ∧ H p = some (.ins C dx fs) ∧ fs.lookup ("_powered" : Str) = some (.bl pw) ∧ (pw = true → Q .non H) ∧ (pw = false → E (.ref CP) Option.none H)
section
variable {P : Program} {wd : World} {K : PySem.W.Frag} {mg : Str → Option Value} {base : Heap} {f C CN CP CS fW fB fk fk2 fk3 fk4 : Addr} {fd fdB fdW fdk fdk2 fdk3 fdk4 : FuncData}
abbrev passX {X : Cx} {W : WX} {E : XK} (tk : Takes X W) (h : ∀ cls d σ H, E cls d H → W cls d σ H) := passes_call (E := E) tk h
/-- raise NotValid() -/
theorem ps_notValid {X : Cx} {W : WX} {p pos pos2 : Pos} {C CN CP CS fW fB : Addr} (T : FT X.K X.mg C CN CP CS fW fB) (hc : X.calm = true) (tk : Takes X W) (hg : Gl X "NotValid") : PS X (.Raise (some (.Call (.Name "NotValid" p) [] [] pos)) none pos2) (fun _ σ H => W (.ref CN) Option.none σ H) :=
  ps_raise hc tk (pmk_own0 PySem.F.excBase_ValueError T.xN T.gN T.kN (raises_own T.bN T.tN) hg)
theorem ps_powerOff {X : Cx} {W : WX} {p pos pos2 : Pos} {C CN CP CS fW fB : Addr} (T : FT X.K X.mg C CN CP CS fW fB) (hc : X.calm = true) (tk : Takes X W) (hg : Gl X "PowerOff") : PS X (.Raise (some (.Call (.Name "PowerOff" p) [] [] pos)) none pos2) (fun _ σ H => W (.ref CP) Option.none σ H) :=
  ps_raise hc tk (pmk_own0 PySem.F.excBase_ValueError T.xP T.gP T.kP (raises_own T.bP T.tP) hg)
abbrev GBet (P : Program) (wd : World) (K : PySem.W.Frag) (mg : Str → Option Value) (base : Heap) (fB : Addr) (fdB : FuncData) : Prop := FnOk P wd K mg base CX0 2 fB fdB ["value", "low", "high"] (spBetween K) ∧ Binds K fdB ["value", "low", "high"] [] ∧ PySem.W.keepIn K (.ref fB) = true
theorem scCkB : FnScope ["self", "block"] ["self", "block"] (defScope (cF 8)) := ⟨rfl, rfl, rfl, by decide +kernel, rfl, by decide +kernel, by decide +kernel⟩
theorem ok_ckB (F : Fun K "_check_block" "Flash._check_block" (cF 8) f fd) (T : FT K mg C CN CP CS fW fB) (G : GBet P wd K mg base fB fdB) : FnOk P wd K mg base (L2.CX P wd) 3 f fd ["self", "block"] (spCkB C CN) := by
  obtain ⟨GB, bB, kB⟩ := G
  refine F.okX scCkB (fun vs H Q E h => ?_) (fun cdv A outer s H vs Q E hr h => ?_)
  · obtain ⟨p, n, b, rfl, _⟩ := h
    rfl
  · obtain ⟨p, n, b, rfl, ⟨dx, fs, hob, hn⟩, k1, k2⟩ := h
    refine ⟨_, pss_one (ps_if (pt_not (pt_val (pe_call GB hr (by rfl) T.gB kB bB .nil pass0 (pa_cons (pv 1) (pa_cons pe_int (pa_cons (pe_op op_sub (pe_fld (pv 0) rfl) pe_int) pa_nil)))))) (pss_one (ps_notValid T rfl (takes_of rfl rfl rfl rfl) (by rfl))) pss_nil), ?_⟩
    refine ⟨_, rfl, _, rfl, p, C, dx, _, _, rfl, hob, T.cl, T.n1, hn, _, _, rfl, rfl, _, _, _, rfl, .inl ⟨b, rfl, _, rfl, ?_⟩⟩
    by_cases c : 0 ≤ b ∧ b < n
    · rw [decide_eq_true c.1, decide_eq_true (show b ≤ n - 1 by omega)]
      exact iteF (k1 c)
    · have e : (decide (0 ≤ b) && decide (b ≤ n - 1)) = false := by
        rw [Bool.and_eq_false_iff, decide_eq_false_iff_not, decide_eq_false_iff_not]; omega
      rw [e]
      exact iteT (k2 c)
theorem scCkP : FnScope ["self", "block", "page"] ["self", "block", "page"] (defScope (cF 9)) := ⟨rfl, rfl, rfl, by decide +kernel, rfl, by decide +kernel, by decide +kernel⟩
theorem ok_ckP (F : Fun K "_check_page" "Flash._check_page" (cF 9) f fd) (T : FT K mg C CN CP CS fW fB) (G : GBet P wd K mg base fB fdB)
    (Gk : FnOk P wd K mg base (L2.CX P wd) 3 fk fdk ["self", "block"] (spCkB C CN)) (bk : Binds K fdk ["self", "block"] []) (mk : Meth K C "_check_block" fk) : FnOk P wd K mg base (L2.CX P wd) 4 f fd ["self", "block", "page"] (spCkP C CN) := by
  obtain ⟨GB, bB, kB⟩ := G
  obtain ⟨tk, hpag⟩ := T.pag
  refine F.okX scCkP (fun vs H Q E h => ?_) (fun cdv A outer s H vs Q E hr h => ?_)
  · obtain ⟨p, n, b, g, rfl, _⟩ := h
    rfl
  · obtain ⟨p, n, b, g, rfl, ⟨dx, fs, hob, hn, hm⟩, k1, k2⟩ := h
    have hr2 : Room 2 _ := hr.mono (by decide)
    refine ⟨_, pss_cons (ps_expr (pe_meth (pv 0) T.cl mk Gk hr bk .nil (passX (E := E) (takes_of rfl rfl rfl rfl) (fun _ _ _ _ z => z)) (pa_cons (pv 1) pa_nil)))
      (pss_one (ps_if (pt_not (pt_val (pe_call GB hr2 (by rfl) T.gB kB bB .nil pass0 (pa_cons (pv 2) (pa_cons pe_int (pa_cons (pe_op op_sub (pe_glob (v := .int 8) (by rfl) hpag ⟨_, rfl⟩) pe_int) pa_nil)))))) (pss_one (ps_notValid T rfl (takes_of rfl rfl rfl rfl) (by rfl))) pss_nil)), ?_⟩
    refine ⟨_, rfl, p, dx, fs, rfl, hob, hm, _, rfl, p, n, b, rfl, ⟨dx, fs, hob, hn⟩, fun c1 => ?_, fun c1 => k2 (fun z => c1 z.1)⟩
    refine ⟨_, rfl, _, _, rfl, rfl, _, _, _, rfl, .inl ⟨g, rfl, _, rfl, ?_⟩⟩
    by_cases c : 0 ≤ g ∧ g < 8
    · rw [decide_eq_true c.1, decide_eq_true (show g ≤ 8 - 1 by omega)]
      exact iteF (k1 ⟨c1, c⟩)
    · have e : (decide (0 ≤ g) && decide (g ≤ 8 - 1)) = false := by
        rw [Bool.and_eq_false_iff, decide_eq_false_iff_not, decide_eq_false_iff_not]; omega
      rw [e]
      exact iteT (k2 fun z => c z.2)
theorem scPow : FnScope ["self"] ["self"] (defScope (cF 10)) := ⟨rfl, rfl, rfl, by decide +kernel, rfl, by decide +kernel, by decide +kernel⟩
theorem ok_pow (F : Fun K "_check_power" "Flash._check_power" (cF 10) f fd) (T : FT K mg C CN CP CS fW fB) : FnOk P wd K mg base (L2.CX P wd) 1 f fd ["self"] (spPow C CP) := by
  refine F.okX scPow (fun vs H Q E h => ?_) (fun cdv A outer s H vs Q E hr h => ?_)
  · obtain ⟨p, pw, dx, fs, rfl, _⟩ := h
    rfl
  · obtain ⟨p, pw, dx, fs, rfl, hob, hl, k1, k2⟩ := h
    refine ⟨_, pss_one (ps_if (pt_not (pt_val (pe_fld (pv 0) rfl))) (pss_one (ps_powerOff T rfl (takes_of rfl rfl rfl rfl) (by rfl))) pss_nil), ?_⟩
    refine ⟨_, rfl, p, C, dx, _, _, rfl, hob, T.cl, T.n4, hl, pw, rfl, ?_⟩
    cases pw with
    | true => exact iteF (k1 rfl)
    | false => exact iteT (k2 rfl)
/-- an operation: the power is off, or it fails in this one, or the operation is carried out -/
def remAfter : V → V
  | .int r => .int (r - 1)
  | v => v
/-- what becomes of an operation (pg, cv as in Carried): E of an error that leaves it, Kt of the heap behind it -/
def Opered (C CP : Addr) (H : Hp) (p w c : Addr) (as : List Addr) (ws : List Int) (ps : List (List V)) (pw : Bool) (rm it : V) (b : Nat) (pg cv : V) (E : XK) (Kt : Hp → Prop) : Prop :=
  (pw = false → E (.ref CP) Option.none H) ∧
  (pw = true → rm = .int 0 → ∀ t H', H t = Option.none → H' t = some (.tup [.int (b : Int), pg, cv]) → FlashAt C H' p w c as ws ps false (.int 0) (.ref t) → Off [p] H H' → Tups H H' → E (.ref CP) Option.none H') ∧
  (pw = true → rm ≠ .int 0 → ∀ H', FlashAt C H' p w c as ws ps pw (remAfter rm) it → Off [p] H H' → Tups H H' → Carried C H' p w c as ws ps pw (remAfter rm) it b pg cv Kt)
def spOper (C CP : Addr) : Sp := fun vs H Q E => ∃ p w c as ws ps pw rm it b pg cv, vs = [.ref p, .int ((b : Nat) : Int), pg, cv] ∧ FlashAt C H p w c as ws ps pw rm it ∧ b < ps.length ∧ (rm = .non ∨ ∃ r, rm = .int r) ∧
  Opered C CP H p w c as ws ps pw rm it b pg cv E (Q .non)
theorem scOper : FnScope ["self", "block", "page", "content"] ["self", "block", "page", "content"] (defScope (cF 11)) := ⟨rfl, rfl, rfl, by decide +kernel, rfl, by decide +kernel, by decide +kernel⟩
theorem FlashAt.fields {H : Hp} {p w c : Addr} {as : List Addr} {ws : List Int} {ps : List (List V)} {pw pw' : Bool} {rm it rm' it' : V} {dx : Addr} {o : HO} (F : FlashAt C H p w c as ws ps pw rm it) (hp : H p = some (.ins C dx (ff (ps.length : Int) w c pw rm it)))
    (e : o = .ins C dx (ff (ps.length : Int) w c pw' rm' it')) : FlashAt C (upd H p o) p w c as ws ps pw' rm' it' ∧ Off [p] H (upd H p o) ∧ Tups H (upd H p o) := by
  subst e
  refine ⟨⟨⟨dx, upd_same⟩, ?_, ?_, F.lw, F.pg.mono (Tups.ins hp), F.nwc, F.nwa⟩, fun b o ho hb => ?_, Tups.ins hp⟩
  · rw [upd_ne (ne_of F.wl hp (by intro z; cases z))]; exact F.wl
  · refine F.gr.keep (fun o h => ?_) (fun a ha o h => ?_)
    · rw [upd_ne (ne_of F.gr.ls hp (by intro z; cases z))]; exact h
    · obtain ⟨j, hj⟩ := List.getElem?_of_mem ha
      have hjl : j < ps.length := by rw [← F.gr.len]; exact (List.getElem?_eq_some_iff.mp hj).1
      rw [upd_ne (ne_of (F.gr.rows j a _ hj (List.getElem?_eq_getElem hjl)) hp (by intro z; cases z))]; exact h
  · rw [upd_ne (by simpa using hb)]; exact ho
theorem ok_oper (F : Fun K "_operate" "Flash._operate" (cF 11) f fd) (T : FT K mg C CN CP CS fW fB) 
    (Gk : FnOk P wd K mg base (L2.CX P wd) 1 fk fdk ["self"] (spPow C CP)) (bk : Binds K fdk ["self"] []) (mk : Meth K C "_check_power" fk)
    (Gk2 : FnOk P wd K mg base CX0 1 fk2 fdk2 ["self", "block", "page", "content"] (spCarry C)) (bk2 : Binds K fdk2 ["self", "block", "page", "content"] []) (mk2 : Meth K C "_carry_out" fk2) : FnOk P wd K mg base (L2.CX P wd) 2 f fd ["self", "block", "page", "content"] (spOper C CP) := by
  refine F.okX scOper (fun vs H Q E h => ?_) (fun cdv A outer s H vs Q E hr h => ?_)
  · obtain ⟨p, w, c, as, ws, ps, pw, rm, it, b, pg, cv, rfl, _⟩ := h
    rfl
  · obtain ⟨p, w, c, as, ws, ps, pw, rm, it, b, pg, cv, rfl, FA, hb, hrm, k1, k2, k3⟩ := h
    obtain ⟨dx, hob⟩ := id FA.ob
    refine ⟨_, pss_cons (ps_expr (pe_meth0 (pv 0) T.cl mk Gk hr bk .nil (passX (E := E) (takes_of rfl rfl rfl rfl) (fun _ _ _ _ z => z))))
      (pss_cons (ps_if (pt_cmpR op_eq (pe_fld (pv 0) rfl) pe_int (nomark _))
        (pss_cons (ps_fld (pv 0) pe_bl rfl) (pss_cons (ps_fld (pv 0) (pe_tup (pa_cons (pv 1) (pa_cons (pv 2) (pa_cons (pv 3) pa_nil)))) rfl) (pss_one (ps_powerOff T rfl (takes_of rfl rfl rfl rfl) (by rfl))))) pss_nil)
      (pss_cons (ps_if (pt_cmpR op_notN (pe_fld (pv 0) rfl) pe_non (nomark _)) (pss_one (ps_fldaug (pv 0) pe_int in_sub)) pss_nil)
      (pss_one (ps_expr (pe_meth (pv 0) T.cl mk2 Gk2 hr bk2 .nil pass0 (pa_cons (pv 1) (pa_cons (pv 2) (pa_cons (pv 3) pa_nil)))))))), ?_⟩
    refine ⟨_, rfl, p, dx, _, rfl, hob, ff_no (by decide +kernel), p, pw, dx, _, rfl, hob, ff_powered, fun hp => ?_, k1⟩
    subst hp
    refine ⟨_, rfl, p, C, dx, _, _, rfl, hob, T.cl, T.n5, ff_remaining, ?_⟩
    rcases hrm with rfl | ⟨r, rfl⟩
    · -- None
      refine ⟨rfl, _, rfl, ?_⟩
      rw [decide_eq_false (by intro z; cases z)]
      refine iteF ?_
      refine ⟨_, rfl, p, C, dx, _, _, rfl, hob, T.cl, T.n5, ff_remaining, rfl, _, rfl, ?_⟩
      rw [decide_eq_true rfl]
      refine iteF ?_
      exact ⟨_, rfl, p, dx, _, rfl, hob, ff_no (by decide +kernel), _, rfl, _, rfl, _, rfl, p, w, c, as, ws, ps, true, .non, it, b, pg, cv, rfl, FA, hb, k3 rfl (by intro z; cases z) H FA (fun _ _ h _ => h) (fun _ _ h => h)⟩
    · refine ⟨rfl, _, rfl, ?_⟩
      by_cases c0 : r = 0
      · subst c0
        rw [decide_eq_true rfl]
        refine iteT ?_
        have hlen : ∀ {pw : Bool} {rm it : V}, (ff (ps.length : Int) w c pw rm it).length < 1000 := ff_len
        refine ⟨_, rfl, p, C, dx, _, rfl, hob, T.cl, T.n4, ff_len, _, rfl, _, rfl, _, rfl, by show 3 ≤ sizeLine; decide, fun t ht => ?_⟩
        have npt : p ≠ t := ne_of_none (upd_same (H := H) (a := p) (o := .ins C dx (putF "_powered" (.bl false) (ff (ps.length : Int) w c true (.int 0) it)))) ht
        refine ⟨_, rfl, p, C, dx, _, rfl, (by rw [upd_ne npt]; exact upd_same), T.cl, T.n6, (by rw [ff_putP]; exact ff_len), ?_⟩
        have htH : H t = Option.none := by rw [upd_ne npt.symm] at ht; exact ht
        rw [ff_putP, ff_putI]
        obtain ⟨A1, A2, A3⟩ := FA.fields (o := .ins C dx (ff (ps.length : Int) w c false (.int 0) (.ref t))) (pw' := false) (rm' := .int 0) (it' := .ref t) hob rfl
        have eH : upd (upd (upd H p (.ins C dx (ff (ps.length : Int) w c false (.int 0) it))) t (.tup [.int (b : Int), pg, cv])) p (.ins C dx (ff (ps.length : Int) w c false (.int 0) (.ref t))) = upd (upd H p (.ins C dx (ff (ps.length : Int) w c false (.int 0) (.ref t)))) t (.tup [.int (b : Int), pg, cv]) := by
          funext x
          unfold upd
          by_cases h1 : x = p
          · subst h1; rw [if_pos rfl, if_neg npt, if_pos rfl]
          · rw [if_neg h1]
            by_cases h2 : x = t
            · rw [if_pos h2, if_pos h2]
            · rw [if_neg h2, if_neg h1, if_neg h2, if_neg h1]
        rw [eH]
        have hfree : (upd H p (.ins C dx (ff (ps.length : Int) w c false (.int 0) (.ref t)))) t = Option.none := by rw [upd_ne npt.symm]; exact htH
        have sm := same_new (o := .tup [.int (b : Int), pg, cv]) hfree
        refine k2 rfl rfl t _ htH upd_same ⟨?_, ?_, A1.gr.same sm, A1.lw, A1.pg.mono (same_tups sm), A1.nwc, A1.nwa⟩ (fun x o hx hn => sm _ _ (A2 x o hx hn)) (A3.trans (same_tups sm))
        · obtain ⟨dx', h'⟩ := A1.ob
          exact ⟨dx', sm _ _ h'⟩
        · exact sm _ _ A1.wl
      · rw [decide_eq_false (by intro z; cases z; exact c0 rfl)]
        refine iteF ?_
        refine ⟨_, rfl, p, C, dx, _, _, rfl, hob, T.cl, T.n5, ff_remaining, rfl, _, rfl, ?_⟩
        rw [decide_eq_false (by intro z; cases z)]
        refine iteT ?_
        refine ⟨_, rfl, p, C, dx, _, _, rfl, hob, T.cl, T.n5, ff_remaining, _, _, rfl, rfl, dx, _, hob, ff_len, ?_⟩
        rw [ff_putR]
        obtain ⟨A1, A2, A3⟩ := FA.fields (o := .ins C dx (ff (ps.length : Int) w c true (.int (r - 1)) it)) (pw' := true) (rm' := .int (r - 1)) (it' := it) hob rfl
        refine ⟨_, rfl, p, dx, _, rfl, upd_same, ff_no (by decide +kernel), _, rfl, _, rfl, _, rfl, p, w, c, as, ws, ps, true, .int (r - 1), it, b, pg, cv, rfl, A1, hb, k3 rfl (by intro z; cases z; exact c0 rfl) _ A1 A2 A3⟩
end
end Sg

set_option Elab.async false
set_option linter.all false
set_option maxRecDepth 100000
set_option maxHeartbeats 4000000
namespace Sg
open PySem PySem.Spec PyProof.Rows L2
abbrev sFirst : Stmt := top 16
theorem hu65 {k : Nat} {A : Around} (hr : Room k A) : A.units + 65 < cLine := by have := hr.un; omega
theorem yesIte {σ : L2.St} {H : Hp} {A B : Hp → Prop} (h : A H) : tYes σ H (fun b H3 => if b = true then A H3 else B H3) := by
  show (if true = true then A H else B H)
  rw [if_pos rfl]; exact h
def rListOf (K : PySem.W.Frag) : List V → Hp → VK → Prop := fun xs H Q => ∃ p ys, xs = [.ref p] ∧ (SqL K H p ys ∨ SqT K H p ys) ∧ ∀ l, H l = Option.none → Q (.ref l) (upd H l (.lst ys))
theorem call_listOf {X : Cx} : CallR X (.type "list") (rListOf X.K) := call_list_of
def spFirst : Sp := fun vs H Q _ => ∃ a xs, vs = [.ref a] ∧ H a = some (.lst (row xs)) ∧ PgsN H xs ∧ Q (.int (xs.length : Int)) H
def ImgNew (H0 H : Hp) (r : Addr) (ws : List Int) (ps : List (List V)) : Prop := H0 r = Option.none ∧ ∃ tr : List Addr, H r = some (.lst (tr.map V.ref)) ∧ tr.length = ps.length ∧
  ∀ (i : Nat) (t : Addr), tr[i]? = some t → ∃ (wv : Int) (c : Addr) (vs : List V), ws[i]? = some wv ∧ ps[i]? = some vs ∧ H t = some (.tup [.int wv, .ref c]) ∧ H c = some (.lst (row vs)) ∧ H0 t = Option.none ∧ H0 c = Option.none
theorem ImgNew.at_ {H0 H : Hp} {r : Addr} {ws : List Int} {ps : List (List V)} (h : ImgNew H0 H r ws ps) : ImgAt H r ws ps := by
  obtain ⟨_, tr, h1, h2, h3⟩ := h
  refine ⟨tr, h1, h2, fun i t ht => ?_⟩
  obtain ⟨wv, c, vs, a, b, d, e, _, _⟩ := h3 i t ht
  exact ⟨wv, c, vs, a, b, d, e⟩
def spRead (C CN CP : Addr) : Sp := fun vs H Q E => ∃ p w c as ws ps pw rm it b g, vs = [.ref p, .int b, .int g] ∧ FlashAt C H p w c as ws ps pw rm it ∧
  (¬ ((0 ≤ b ∧ b < (ps.length : Int)) ∧ (0 ≤ g ∧ g < 8)) → E (.ref CN) Option.none H) ∧
  (∀ (j i : Nat) vs v, b = (j : Int) → g = (i : Int) → ps[j]? = some vs → (row vs)[i]? = some v → (pw = false → E (.ref CP) Option.none H) ∧ (pw = true → Q v H))
def spWear (C CN : Addr) : Sp := fun vs H Q E => ∃ p w c as ws ps pw rm it b, vs = [.ref p, .int b] ∧ FlashAt C H p w c as ws ps pw rm it ∧
  (¬ (0 ≤ b ∧ b < (ps.length : Int)) → E (.ref CN) Option.none H) ∧ (∀ (j : Nat) wv, b = (j : Int) → ws[j]? = some wv → Q (.int wv) H)
def spErase (C CN CP : Addr) : Sp := fun vs H Q E => ∃ p w c as ws ps pw rm it b, vs = [.ref p, .int b] ∧ FlashAt C H p w c as ws ps pw rm it ∧ (rm = .non ∨ ∃ r, rm = .int r) ∧
  (¬ (0 ≤ b ∧ b < (ps.length : Int)) → E (.ref CN) Option.none H) ∧ (∀ j : Nat, b = (j : Int) → j < ps.length → Opered C CP H p w c as ws ps pw rm it j .non .non E (Q .non))
/-- a record: a tuple, or something else -/
def spProg (K : PySem.W.Frag) (C CN CP : Addr) : Sp := fun vs H Q E => ∃ p w c as ws ps pw rm it b g rv tv isT, vs = [.ref p, .int b, .int g, rv] ∧ FlashAt C H p w c as ws ps pw rm it ∧ (rm = .non ∨ ∃ r, rm = .int r) ∧
  TyX K H rv tv ∧ PySem.W.kitOne K tv (.type "tuple") = some isT ∧
  (¬ ((0 ≤ b ∧ b < (ps.length : Int)) ∧ (0 ≤ g ∧ g < 8) ∧ isT = true ∧ ∃ (j : Nat) (vs : List V), b = (j : Int) ∧ ps[j]? = some vs ∧ g = (vs.length : Int)) → E (.ref CN) Option.none H) ∧
  (∀ (j : Nat) (vs : List V), b = (j : Int) → ps[j]? = some vs → g = (vs.length : Int) → vs.length < 8 → isT = true → Opered C CP H p w c as ws ps pw rm it j (.int (vs.length : Int)) rv E (Q .non))
def spImage (C : Addr) : Sp := fun vs H Q _ => ∃ p w c as ws ps pw rm it, vs = [.ref p] ∧ FlashAt C H p w c as ws ps pw rm it ∧ ps.length ≤ 100 ∧ ∀ r H', Same H H' → ImgNew H H' r ws ps → Q (.ref r) H'
def spInit (C CN : Addr) : Sp := fun vs H Q E => ∃ p dx n, vs = [.ref p, .int n] ∧ H p = some (.ins C dx []) ∧
  (∀ m : Nat, n = (m : Int) → 8 ≤ m → m ≤ 24 → ∀ w c as H', FlashAt C H' p w c as (List.replicate m 0) (List.replicate m []) true .non .non → H w = Option.none → H c = Option.none → (∀ a ∈ as, H a = Option.none) → Off [p] H H' → Tups H H' → Q .non H') ∧
  (¬ (8 ≤ n ∧ n ≤ 24) → E (.ref CN) Option.none H)
section
variable {P : Program} {wd : World} {K : PySem.W.Frag} {mg : Str → Option Value} {base : Heap} {f C CN CP CS fW fB fk fk2 fk3 fk4 : Addr} {fd fdB fdW fdk fdk2 fdk3 fdk4 : FuncData}
theorem scFirst : FnScope ["pages"] ["pages"] (defScope sFirst) := ⟨rfl, rfl, rfl, by decide +kernel, rfl, by decide +kernel, by decide +kernel⟩
theorem ok_first (F : Fun K "first_erased" "first_erased" sFirst f fd) (T : FT K mg C CN CP CS fW fB) : FnOk P wd K mg base CX0 1 f fd ["pages"] spFirst := by
  obtain ⟨tk, hpag⟩ := T.pag
  refine F.ok scFirst (fun vs H Q E h => ?_) (fun cdv A outer s H vs Q E hr h => ?_)
  · obtain ⟨a, xs, rfl, _⟩ := h
    rfl
  · obtain ⟨a, xs, rfl, ha, hx, q⟩ := h
    refine ⟨_, pss_one (ps_ret (pe_op op_sub (pe_glob (v := .int 8) (by rfl) hpag ⟨_, rfl⟩) (pe_bm PySem.F.plainAttrs_list PySem.F.slot_list_count PySem.F.type_list_count (mt_countD (hu65 hr)) (pv 0) (pa_cons pe_non pa_nil)))), ?_⟩
    obtain ⟨ds, d1, d2, d3, d4⟩ := row_dp (K := K) hx
    refine ⟨_, rfl, .inl ⟨rfl, _, SqL.of ha⟩, a, .non, .none, ds, rfl, rfl, .lst (SqL.of ha) d1, .non, shaped_list d2 (by omega), by decide, _, _, rfl, rfl, ?_⟩
    have e : (8 : Int) - ((ds.countP (fun z => PyData.eqv z .none) : Nat) : Int) = (xs.length : Int) := by
      have := hx.1
      rw [d4]; omega
    show Q (.int ((8 : Int) - ((ds.countP (fun z => PyData.eqv z .none) : Nat) : Int))) H
    rw [e]; exact q
theorem FlashAt.ckP {H : Hp} {p w c : Addr} {as : List Addr} {ws : List Int} {ps : List (List V)} {pw : Bool} {rm it : V} (F : FlashAt C H p w c as ws ps pw rm it) : ∃ dx fs, H p = some (.ins C dx fs) ∧ fs.lookup ("blocks" : Str) = some (.int (ps.length : Int)) ∧ fs.lookup ("_check_block" : Str) = Option.none := by
  obtain ⟨dx, h⟩ := F.ob
  exact ⟨dx, _, h, ff_blocks, ff_no (by decide +kernel)⟩
theorem scRead : FnScope ["self", "block", "page"] ["self", "block", "page"] (defScope (cF 1)) := ⟨rfl, rfl, rfl, by decide +kernel, rfl, by decide +kernel, by decide +kernel⟩
theorem ok_read (F : Fun K "read" "Flash.read" (cF 1) f fd) (T : FT K mg C CN CP CS fW fB)
    (Gk : FnOk P wd K mg base (L2.CX P wd) 4 fk fdk ["self", "block", "page"] (spCkP C CN)) (bk : Binds K fdk ["self", "block", "page"] []) (mk : Meth K C "_check_page" fk)
    (Gk2 : FnOk P wd K mg base (L2.CX P wd) 1 fk2 fdk2 ["self"] (spPow C CP)) (bk2 : Binds K fdk2 ["self"] []) (mk2 : Meth K C "_check_power" fk2) : FnOk P wd K mg base (L2.CX P wd) 5 f fd ["self", "block", "page"] (spRead C CN CP) := by
  refine F.okX scRead (fun vs H Q E h => ?_) (fun cdv A outer s H vs Q E hr h => ?_)
  · obtain ⟨p, w, c, as, ws, ps, pw, rm, it, b, g, rfl, _⟩ := h
    rfl
  · obtain ⟨p, w, c, as, ws, ps, pw, rm, it, b, g, rfl, FA, k1, k2⟩ := h
    obtain ⟨dx, hob⟩ := id FA.ob
    have hr1 : Room 1 _ := hr.mono (by decide)
    refine ⟨_, pss_cons (ps_expr (pe_meth (pv 0) T.cl mk Gk hr bk .nil (passX (E := E) (takes_of rfl rfl rfl rfl) (fun _ _ _ _ z => z)) (pa_cons (pv 1) (pa_cons (pv 2) pa_nil))))
      (pss_cons (ps_expr (pe_meth0 (pv 0) T.cl mk2 Gk2 hr1 bk2 .nil (passX (E := E) (takes_of rfl rfl rfl rfl) (fun _ _ _ _ z => z))))
      (pss_one (ps_ret (pe_ix ix_list (pe_ix ix_list (pe_fld (pv 0) rfl) (pv 1) (fun _ _ => rfl)) (pv 2) (fun _ _ => rfl))))), ?_⟩
    refine ⟨_, rfl, p, dx, _, rfl, hob, ff_no (by decide +kernel), _, rfl, _, rfl, p, _, b, g, rfl, FA.ckP, fun ⟨hb, hg⟩ => ?_, k1⟩
    obtain ⟨j, rfl⟩ : ∃ j : Nat, b = (j : Int) := ⟨b.toNat, by omega⟩
    obtain ⟨i, rfl⟩ : ∃ i : Nat, g = (i : Int) := ⟨g.toNat, by omega⟩
    have hj : j < ps.length := by omega
    have hvs : ps[j]? = some ps[j] := List.getElem?_eq_getElem hj
    obtain ⟨a, ha, hrow⟩ := FA.gr.at hvs
    have h8 := row_len (FA.pg _ (List.mem_of_getElem? hvs)).1
    have hi : i < (row ps[j]).length := by rw [h8]; omega
    have hv : (row ps[j])[i]? = some (row ps[j])[i] := List.getElem?_eq_getElem hi
    obtain ⟨k3, k4⟩ := k2 j i _ _ rfl rfl hvs hv
    refine ⟨_, rfl, p, dx, _, rfl, hob, ff_no (by decide +kernel), p, pw, dx, _, rfl, hob, ff_powered, fun hp => ?_, k3⟩
    refine ⟨_, rfl, p, C, dx, _, _, rfl, hob, T.cl, T.n3, ff_contents, _, rfl, c, _, _, _, rfl, rfl, SqL.of FA.gr.ls, atI_nat (get_map ha), _, rfl, a, _, _, _, rfl, rfl, SqL.of hrow, atI_nat hv, k4 hp⟩
theorem scWear : FnScope ["self", "block"] ["self", "block"] (defScope (cF 4)) := ⟨rfl, rfl, rfl, by decide +kernel, rfl, by decide +kernel, by decide +kernel⟩
theorem ok_wear (F : Fun K "wear" "Flash.wear" (cF 4) f fd) (T : FT K mg C CN CP CS fW fB)
    (Gk : FnOk P wd K mg base (L2.CX P wd) 3 fk fdk ["self", "block"] (spCkB C CN)) (bk : Binds K fdk ["self", "block"] []) (mk : Meth K C "_check_block" fk) : FnOk P wd K mg base (L2.CX P wd) 4 f fd ["self", "block"] (spWear C CN) := by
  refine F.okX scWear (fun vs H Q E h => ?_) (fun cdv A outer s H vs Q E hr h => ?_)
  · obtain ⟨p, w, c, as, ws, ps, pw, rm, it, b, rfl, _⟩ := h
    rfl
  · obtain ⟨p, w, c, as, ws, ps, pw, rm, it, b, rfl, FA, k1, k2⟩ := h
    obtain ⟨dx, hob⟩ := id FA.ob
    refine ⟨_, pss_cons (ps_expr (pe_meth (pv 0) T.cl mk Gk hr bk .nil (passX (E := E) (takes_of rfl rfl rfl rfl) (fun _ _ _ _ z => z)) (pa_cons (pv 1) pa_nil)))
      (pss_one (ps_ret (pe_ix ix_list (pe_fld (pv 0) rfl) (pv 1) (fun _ _ => rfl)))), ?_⟩
    refine ⟨_, rfl, p, dx, _, rfl, hob, ff_no (by decide +kernel), _, rfl, p, _, b, rfl, FA.blk, fun hb => ?_, k1⟩
    obtain ⟨j, rfl⟩ : ∃ j : Nat, b = (j : Int) := ⟨b.toNat, by omega⟩
    have hj : j < ws.length := by have := FA.lw; omega
    have hv : ws[j]? = some ws[j] := List.getElem?_eq_getElem hj
    exact ⟨_, rfl, p, C, dx, _, _, rfl, hob, T.cl, T.n2, ff_wears, _, rfl, w, _, _, _, rfl, rfl, SqL.of FA.wl, atI_nat (get_map hv), k2 j _ rfl hv⟩
theorem scErase : FnScope ["self", "block"] ["self", "block"] (defScope (cF 3)) := ⟨rfl, rfl, rfl, by decide +kernel, rfl, by decide +kernel, by decide +kernel⟩
theorem ok_erase (F : Fun K "erase" "Flash.erase" (cF 3) f fd) (T : FT K mg C CN CP CS fW fB)
    (Gk : FnOk P wd K mg base (L2.CX P wd) 3 fk fdk ["self", "block"] (spCkB C CN)) (bk : Binds K fdk ["self", "block"] []) (mk : Meth K C "_check_block" fk)
    (Gk2 : FnOk P wd K mg base (L2.CX P wd) 2 fk2 fdk2 ["self", "block", "page", "content"] (spOper C CP)) (bk2 : Binds K fdk2 ["self", "block", "page", "content"] []) (mk2 : Meth K C "_operate" fk2) : FnOk P wd K mg base (L2.CX P wd) 4 f fd ["self", "block"] (spErase C CN CP) := by
  refine F.okX scErase (fun vs H Q E h => ?_) (fun cdv A outer s H vs Q E hr h => ?_)
  · obtain ⟨p, w, c, as, ws, ps, pw, rm, it, b, rfl, _⟩ := h
    rfl
  · obtain ⟨p, w, c, as, ws, ps, pw, rm, it, b, rfl, FA, hrm, k1, k2⟩ := h
    obtain ⟨dx, hob⟩ := id FA.ob
    have hr2 : Room 2 _ := hr.mono (by decide)
    refine ⟨_, pss_cons (ps_expr (pe_meth (pv 0) T.cl mk Gk hr bk .nil (passX (E := E) (takes_of rfl rfl rfl rfl) (fun _ _ _ _ z => z)) (pa_cons (pv 1) pa_nil)))
      (pss_one (ps_expr (pe_meth (pv 0) T.cl mk2 Gk2 hr2 bk2 .nil (passX (E := E) (takes_of rfl rfl rfl rfl) (fun _ _ _ _ z => z)) (pa_cons (pv 1) (pa_cons pe_non (pa_cons pe_non pa_nil)))))), ?_⟩
    refine ⟨_, rfl, p, dx, _, rfl, hob, ff_no (by decide +kernel), _, rfl, p, _, b, rfl, FA.blk, fun hb => ?_, k1⟩
    obtain ⟨j, rfl⟩ : ∃ j : Nat, b = (j : Int) := ⟨b.toNat, by omega⟩
    have hj : j < ps.length := by omega
    exact ⟨_, rfl, p, dx, _, rfl, hob, ff_no (by decide +kernel), _, rfl, p, w, c, as, ws, ps, pw, rm, it, j, .non, .non, rfl, FA, hj, hrm, k2 j rfl hj⟩
theorem scImage : FnScope ["self", "block"] ["self"] (defScope (cF 7)) := ⟨rfl, rfl, rfl, by decide +kernel, rfl, by decide +kernel, by decide +kernel⟩
theorem ok_image (F : Fun K "image" "Flash.image" (cF 7) f fd) (T : FT K mg C CN CP CS fW fB) : FnOk P wd K mg base CX0 1 f fd ["self"] (spImage C) := by
  refine F.ok scImage (fun vs H Q E h => ?_) (fun cdv A outer s H vs Q E hr h => ?_)
  · obtain ⟨p, w, c, as, ws, ps, pw, rm, it, rfl, _⟩ := h
    rfl
  · obtain ⟨p, w, c, as, ws, ps, pw, rm, it, rfl, FA, hsz, k⟩ := h
    obtain ⟨dx, hob⟩ := id FA.ob
    refine ⟨_, pss_one (ps_ret (pe_lc (own := [("block", 1)]) (g := gName 1) (tt := tYes) (te := tTup (tCons (tOp (rIxL K) (tFld K (tVar 0) "_wears") (tVar 1)) (tCons (tCB (rListOf K) (tCons (tOp (rIxL K) (tFld K (tVar 0) "_contents") (tVar 1)) tNil)) tNil))) (by rfl) scImage.nd (pi_range1 (by rfl) T.bt.range (pa_cons (pe_fld (pv 0) rfl) pa_nil)) (blkOk_by (own := [("block", 1)]) (N := ["self", "block"]) (sc := defScope (cF 7)) (by decide +kernel))
      (fun _ _ _ _ _ => pg_name (i := 1) scImage.nd rfl (Or.inl rfl)) (fun _ _ _ _ _ => pts_nil)
      (fun _ _ _ _ _ => by exact (pe_tup (pa_cons (pe_ix ix_list (pe_fld (pv 0) rfl) (pv 1) (fun _ _ => rfl)) (pa_cons (pe_callTy call_listOf (by rfl) T.lst boot_list (pa_cons (pe_ix ix_list (pe_fld (pv 0) rfl) (pv 1) (fun _ _ => rfl)) pa_nil)) pa_nil)))))), ?_⟩
    refine ⟨_, rfl, p, C, dx, _, _, rfl, hob, T.cl, T.n1, ff_blocks, _, rfl, by omega, by omega, fun D hD => ?_⟩
    refine lc_range (lo := 0) (n := ((ps.length : Int)).toNat) (fun i H' => i ≤ ps.length ∧ Same H H' ∧ ∃ tr : List Addr, H' D = some (.lst (tr.map V.ref)) ∧ tr.length = i ∧
      ∀ (i : Nat) (t : Addr), tr[i]? = some t → ∃ (wv : Int) (c : Addr) (vs : List V), ws[i]? = some wv ∧ ps[i]? = some vs ∧ H' t = some (.tup [.int wv, .ref c]) ∧ H' c = some (.lst (row vs)) ∧ H t = Option.none ∧ H c = Option.none ∧ c ≠ D) ⟨Nat.zero_le _, same_new hD, [], upd_same, rfl, fun i t h => by simp at h⟩ ?_ ?_
    · rintro i H' hi ⟨_, sm, tr, hDl, hl, ht⟩
      have hip : i < ps.length := by omega
      have hiw : i < ws.length := by rw [FA.lw]; exact hip
      have hvs : ps[i]? = some ps[i] := List.getElem?_eq_getElem hip
      have hwv : ws[i]? = some ws[i] := List.getElem?_eq_getElem hiw
      obtain ⟨a, ha, hrow⟩ := FA.gr.at hvs
      refine ⟨rfl, ?_⟩
      refine yesIte ?_
      have e0 : (0 : Int) + (i : Int) = (i : Int) := by omega
      refine ⟨_, rfl, p, C, dx, _, _, rfl, sm _ _ hob, T.cl, T.n2, ff_wears, _, rfl, w, _, _, _, rfl, rfl, SqL.of (sm _ _ FA.wl), (by rw [e0]; exact atI_nat (get_map hwv)), ?_⟩
      refine ⟨_, rfl, p, C, dx, _, _, rfl, sm _ _ hob, T.cl, T.n3, ff_contents, _, rfl, c, _, _, _, rfl, rfl, SqL.of (sm _ _ FA.gr.ls), (by rw [e0]; exact atI_nat (get_map ha)), a, _, rfl, .inl (SqL.of (sm _ _ hrow)), fun l hl' => ?_⟩
      refine ⟨by show 2 ≤ sizeLine; decide, fun t ht' => ?_⟩
      have nDl : D ≠ l := ne_of_none hDl hl'
      have s2 := same_new (o := .lst (row ps[i])) hl'
      have s3 := same_new (o := .tup [.int ws[i], .ref l]) ht'
      have nDt : D ≠ t := ne_of_none (s2 _ _ hDl) ht'
      have hlH : H l = Option.none := sm.free hl'
      have htH : H t = Option.none := sm.free (s2.free ht')
      have nlt : l ≠ t := ne_of_none upd_same ht'
      refine ⟨_, s3 _ _ (s2 _ _ hDl), ?_, ?_, ?_, tr ++ [t], ?_, ?_, ?_⟩
      · rw [List.length_map, hl]; exact small1000 (by omega)
      · omega
      · intro x o hx
        rw [upd_ne (ne_of_none hx hD)]
        exact s3 _ _ (s2 _ _ (sm _ _ hx))
      · rw [upd_same, List.map_append]; rfl
      · rw [List.length_append, hl]; rfl
      · intro m u hu
        by_cases hm : m < tr.length
        · rw [List.getElem?_append_left hm] at hu
          obtain ⟨wv, c', vs, f1, f2, f3, f4, f5, f6, f7⟩ := ht m u hu
          refine ⟨wv, c', vs, f1, f2, ?_, ?_, f5, f6, f7⟩
          · rw [upd_ne (ne_of f3 hDl (by intro z; cases z))]; exact s3 _ _ (s2 _ _ f3)
          · rw [upd_ne f7]; exact s3 _ _ (s2 _ _ f4)
        · have hm' : m = tr.length := by
            have := (List.getElem?_eq_some_iff.mp hu).1
            rw [List.length_append] at this
            simp only [List.length_cons, List.length_nil] at this
            omega
          subst hm'
          rw [List.getElem?_append_right (Nat.le_refl _), Nat.sub_self] at hu
          have : t = u := by simpa using hu
          subst this
          rw [hl]
          refine ⟨_, l, _, hwv, hvs, ?_, ?_, htH, hlH, nDl.symm⟩
          · rw [upd_ne nDt.symm, upd_same]
          · rw [upd_ne nDl.symm, upd_ne nlt, upd_same]
    · rintro H' ⟨_, sm, tr, hDl, hl, ht⟩
      refine k D H' sm ⟨hD, tr, hDl, by omega, fun i t h => ?_⟩
      obtain ⟨wv, c', vs, f1, f2, f3, f4, f5, f6, f7⟩ := ht i t h
      exact ⟨wv, c', vs, f1, f2, f3, f4, f5, f6⟩
end
end Sg

set_option Elab.async false
set_option linter.all false
set_option maxRecDepth 100000
set_option maxHeartbeats 4000000
namespace Sg
open PySem PySem.Spec PyProof.Rows L2
/-! ### [[None] * 8 for _ in range(n)] -/
abbrev tRow8 : TE := tOp rRep (tLst (tCons (tC .non) tNil)) (tC (.int 8))
theorem row_nil : (List.replicate (8 : Int).toNat [V.non]).flatten = row [] := by decide
theorem rep8 {D : Addr} {n : Nat} {as : List Addr} {H H' : Hp} {q : Addr} (g : Grid H D as (List.replicate n [])) (h0 : H' D = some (.lst ((as ++ [q]).map V.ref))) (h1 : H' q = some (.lst (row []))) (hq : H q = Option.none) (h2 : ∀ a ∈ as, ∀ o, H a = some o → H' a = some o) : Grid H' D (as ++ [q]) (List.replicate (n + 1) []) := by
  have hqn : q ∉ as := fun h => by
    obtain ⟨j, hj⟩ := List.getElem?_of_mem h
    have hjl : j < (List.replicate n ([] : List V)).length := by rw [← g.len]; exact (List.getElem?_eq_some_iff.mp hj).1
    have := g.rows j q _ hj (List.getElem?_eq_getElem hjl)
    rw [hq] at this; cases this
  refine ⟨h0, ?_, ?_, ?_, fun i a vs ha hvs => ?_⟩
  · have := g.len
    simp only [List.length_append, List.length_replicate, List.length_cons, List.length_nil] at this ⊢
    omega
  · rw [List.nodup_append]
    exact ⟨g.nd, by simp, fun a ha b hb => by rw [List.mem_singleton.mp hb]; exact fun e => hqn (e ▸ ha)⟩
  · intro hm
    rcases List.mem_append.mp hm with h | h
    · exact g.nc h
    · exact ne_of_none g.ls hq (List.mem_singleton.mp h)
  · have ev : vs = [] := by
      have := List.mem_of_getElem? hvs
      rw [List.mem_replicate] at this; exact this.2
    subst ev
    by_cases hi : i < as.length
    · rw [List.getElem?_append_left hi] at ha
      have hil : i < (List.replicate n ([] : List V)).length := by rw [← g.len]; exact hi
      have e := g.rows i a [] ha (by rw [List.getElem?_eq_getElem hil, List.getElem_replicate])
      exact h2 a (List.mem_of_getElem? ha) _ e
    · have hm' := (List.getElem?_eq_some_iff.mp ha).1
      rw [List.length_append] at hm'
      simp only [List.length_cons, List.length_nil] at hm'
      have : i = as.length := by omega
      subst this
      rw [List.getElem?_append_right (Nat.le_refl _), Nat.sub_self] at ha
      have : q = a := by simpa using ha
      rw [← this]; exact h1
theorem rows_lc {σ : L2.St} {H1 : Hp} {D : Addr} {vs : List Nat} {j n : Nat} {Qd : Hp → Prop} (hD : H1 D = Option.none) (hw : ∀ x, wipe ((wipe σ vs).set j (some x)) vs = wipe σ vs) (hn : n ≤ 1000)
    (hd : ∀ H' as, Same H1 H' → Grid H' D as (List.replicate n []) → (∀ a ∈ as, H1 a = Option.none) → Qd H') :
    ∃ W : Nat → Nat → Hp → Prop, (∃ m, W 0 m (upd H1 D (.lst []))) ∧ ∀ i m H, W i m H →
      ((Itr 0 n).stop i H ∧ Qd H) ∨ ((Itr 0 n).go i H ∧ ∃ Nx : Hp → Prop, (∀ H', Nx H' → ∃ m', m' < m ∧ W (i + 1) m' H') ∧ ∀ x H', (Itr 0 n).yld i H x H' → gName j x (wipe σ vs) H' fun σ2 H2 => wipe σ2 vs = wipe σ vs ∧ tYes σ2 H2 fun b H3 =>
        if b = true then tRow8 σ2 H3 fun y H4 => ∃ acc, H4 D = some (.lst acc) ∧ acc.length < sizeLine ∧ Nx (upd H4 D (.lst (acc ++ [y]))) else Nx H3) := by
  refine lc_range (lo := 0) (n := n) (fun i H' => i ≤ n ∧ Same H1 H' ∧ ∃ as : List Addr, Grid H' D as (List.replicate i []) ∧ ∀ a ∈ as, H1 a = Option.none)
    ⟨Nat.zero_le _, same_new hD, [], ⟨upd_same, rfl, List.nodup_nil, by simp, fun i a vs h => by simp at h⟩, fun a h => by cases h⟩ ?_ ?_
  · rintro i H' hi ⟨_, sm, as, g, ha⟩
    refine ⟨hw _, yesIte ?_⟩
    refine ⟨by show 1 ≤ sizeLine; decide, fun l hl => ?_⟩
    refine ⟨l, 8, [.non], rfl, rfl, upd_same, by decide, by decide, by show 8 ≤ sizeLine; decide, fun q hq => ?_⟩
    rw [row_nil]
    have hqH : H' q = Option.none := (same_new hl).free hq
    have s2 : Same H' (upd (upd H' l (.lst [V.non])) q (.lst (row []))) := (same_new hl).trans (same_new hq)
    have nDq : D ≠ q := ne_of_none g.ls hqH
    refine ⟨_, s2 _ _ g.ls, ?_, ?_, ?_, as ++ [q], ?_, ?_⟩
    · rw [List.length_map, g.len, List.length_replicate]; exact small1000 (by omega)
    · omega
    · intro x o hx
      rw [upd_ne (ne_of_none hx hD)]
      exact s2 _ _ (sm _ _ hx)
    · refine rep8 g ?_ ?_ hqH ?_
      · rw [upd_same, List.map_append]; rfl
      · rw [upd_ne nDq.symm, upd_same]
      · intro a h o ho
        rw [upd_ne (fun e : a = D => g.nc (by rw [← e]; exact h))]
        exact s2 _ _ ho
    · intro a h
      rcases List.mem_append.mp h with h | h
      · exact ha a h
      · rw [List.mem_singleton.mp h]; exact sm.free hqH
  · rintro H' ⟨_, sm, as, g, ha⟩
    exact hd H' as sm g ha
section
variable {P : Program} {wd : World} {K : PySem.W.Frag} {mg : Str → Option Value} {base : Heap} {f C CN CP CS fW fB : Addr} {fd fdB fdW : FuncData}
theorem pgs_nil {H : Hp} {n : Nat} : Pgs H (List.replicate n []) := fun vs h => by
  rw [List.mem_replicate] at h
  rw [h.2]
  exact ⟨by simp, fun v h => by cases h⟩
theorem ints_rep {m : Nat} : (List.replicate m [V.int 0]).flatten = (List.replicate m (0 : Int)).map V.int := by
  induction m with
  | zero => rfl
  | succ m ih => rw [List.replicate_succ, List.flatten_cons, ih, List.replicate_succ]; rfl
theorem ff_new {n : Int} {w c : Addr} {pw : Bool} {rm it : V} : putF "_interrupted" it (putF "_remaining" rm (putF "_powered" (V.bl pw) (putF "_contents" (V.ref c) (putF "_wears" (V.ref w) (putF "blocks" (V.int n) []))))) = ff n w c pw rm it := by
  have a1 : putF "blocks" (V.int n) [] = [(("blocks" : Str), V.int n)] := rfl
  have a2 : putF "_wears" (V.ref w) [(("blocks" : Str), V.int n)] = [(("blocks" : Str), V.int n), (("_wears" : Str), V.ref w)] := (put_past (by decide +kernel)).trans rfl
  have a3 : putF "_contents" (V.ref c) [(("blocks" : Str), V.int n), (("_wears" : Str), V.ref w)] = [(("blocks" : Str), V.int n), (("_wears" : Str), V.ref w), (("_contents" : Str), V.ref c)] :=
    (put_past (by decide +kernel)).trans (congrArg _ ((put_past (by decide +kernel)).trans rfl))
  have a4 : putF "_powered" (V.bl pw) [(("blocks" : Str), V.int n), (("_wears" : Str), V.ref w), (("_contents" : Str), V.ref c)] = [(("blocks" : Str), V.int n), (("_wears" : Str), V.ref w), (("_contents" : Str), V.ref c), (("_powered" : Str), V.bl pw)] :=
    (put_past (by decide +kernel)).trans (congrArg _ ((put_past (by decide +kernel)).trans (congrArg _ ((put_past (by decide +kernel)).trans rfl))))
  have a5 : putF "_remaining" rm [(("blocks" : Str), V.int n), (("_wears" : Str), V.ref w), (("_contents" : Str), V.ref c), (("_powered" : Str), V.bl pw)] = [(("blocks" : Str), V.int n), (("_wears" : Str), V.ref w), (("_contents" : Str), V.ref c), (("_powered" : Str), V.bl pw), (("_remaining" : Str), rm)] :=
    (put_past (by decide +kernel)).trans (congrArg _ ((put_past (by decide +kernel)).trans (congrArg _ ((put_past (by decide +kernel)).trans (congrArg _ ((put_past (by decide +kernel)).trans rfl))))))
  have a6 : putF "_interrupted" it [(("blocks" : Str), V.int n), (("_wears" : Str), V.ref w), (("_contents" : Str), V.ref c), (("_powered" : Str), V.bl pw), (("_remaining" : Str), rm)] = ff n w c pw rm it :=
    (put_past (by decide +kernel)).trans (congrArg _ ((put_past (by decide +kernel)).trans (congrArg _ ((put_past (by decide +kernel)).trans (congrArg _ ((put_past (by decide +kernel)).trans (congrArg _ ((put_past (by decide +kernel)).trans rfl))))))))
  rw [a1, a2, a3, a4, a5, a6]
theorem scInit : FnScope ["self", "blocks", "_"] ["self", "blocks"] (defScope (cF 0)) := ⟨rfl, rfl, rfl, by decide +kernel, rfl, by decide +kernel, by decide +kernel⟩
theorem ok_init (F : Fun K "__init__" "Flash.__init__" (cF 0) f fd) (T : FT K mg C CN CP CS fW fB) (G : GBet P wd K mg base fB fdB) : FnOk P wd K mg base (L2.CX P wd) 3 f fd ["self", "blocks"] (spInit C CN) := by
  obtain ⟨GB, bB, kB⟩ := G
  obtain ⟨tk1, hpag⟩ := T.pag
  obtain ⟨tk2, hmn⟩ := T.mnb
  obtain ⟨tk3, hmx⟩ := T.mxb
  refine F.okX scInit (fun vs H Q E h => ?_) (fun cdv A outer s H vs Q E hr h => ?_)
  · obtain ⟨p, dx, n, rfl, _⟩ := h
    rfl
  · obtain ⟨p, dx, n, rfl, hob, k1, k2⟩ := h
    refine ⟨_, pss_cons (ps_if (pt_not (pt_val (pe_call GB hr (by rfl) T.gB kB bB .nil pass0 (pa_cons (pv 1) (pa_cons (pe_glob (v := .int 8) (by rfl) hmn ⟨_, rfl⟩) (pa_cons (pe_glob (v := .int 24) (by rfl) hmx ⟨_, rfl⟩) pa_nil)))))) (pss_one (ps_notValid T rfl (takes_of rfl rfl rfl rfl) (by rfl))) pss_nil)
      (pss_cons (ps_fld (pv 0) (pv 1) rfl)
      (pss_cons (ps_fld (pv 0) (pe_op op_rep (pe_lst (pa_cons pe_int pa_nil)) (pv 1)) rfl)
      (pss_cons (ps_fld (pv 0) (pe_lc (own := [("_", 2)]) (g := gName 2) (tt := tYes) (te := tRow8) (by rfl) scInit.nd (pi_range1 (by rfl) T.bt.range (pa_cons (pv 1) pa_nil)) (blkOk_by (own := [("_", 2)]) (N := ["self", "blocks", "_"]) (sc := defScope (cF 0)) (by decide +kernel))
          (fun _ _ _ _ _ => pg_name (i := 2) scInit.nd rfl (Or.inl rfl)) (fun _ _ _ _ _ => pts_nil) (fun _ _ _ _ _ => by exact (pe_op op_rep (pe_lst (pa_cons pe_non pa_nil)) (pe_glob (v := .int 8) (by rfl) hpag ⟨_, rfl⟩)))) rfl)
      (pss_cons (ps_fld (pv 0) pe_bl rfl) (pss_cons (ps_fld (pv 0) pe_non rfl) (pss_one (ps_fld (pv 0) pe_non rfl))))))), ?_⟩
    refine ⟨_, rfl, _, _, _, rfl, .inl ⟨n, rfl, _, rfl, ?_⟩⟩
    by_cases c : 8 ≤ n ∧ n ≤ 24
    · rw [decide_eq_true c.1, decide_eq_true c.2]
      refine iteF ?_
      obtain ⟨m, rfl⟩ : ∃ m : Nat, n = (m : Int) := ⟨n.toNat, by omega⟩
      refine ⟨_, rfl, _, rfl, p, C, dx, [], rfl, hob, T.cl, T.n1, by show 0 < 1000; decide, ?_⟩
      generalize hH1 : upd H p (.ins C dx (putF "blocks" (.int (m : Int)) [])) = H1
      have hob1 : H1 p = some (.ins C dx (putF "blocks" (.int (m : Int)) [])) := by rw [← hH1, upd_same]
      refine ⟨by show 1 ≤ sizeLine; decide, fun l hl => ?_⟩
      refine ⟨_, rfl, l, (m : Int), [.int 0], rfl, rfl, upd_same, by omega, by omega, ?_, fun w hw => ?_⟩
      · exact Nat.le_of_lt (small1000 (by simp only [List.length_cons, List.length_nil, Int.toNat_natCast]; omega))
      have npl : p ≠ l := ne_of_none hob1 hl
      have hwH : H1 w = Option.none := (same_new hl).free hw
      have npw : p ≠ w := ne_of_none hob1 hwH
      refine ⟨_, rfl, p, C, dx, _, rfl, (by rw [upd_ne npw, upd_ne npl]; exact hob1), T.cl, T.n2, by show 1 < 1000; decide, ?_⟩
      generalize hH2 : upd (upd (upd H1 l (.lst [V.int 0])) w (.lst (List.replicate (m : Int).toNat [V.int 0]).flatten)) p (.ins C dx (putF "_wears" (.ref w) (putF "blocks" (.int (m : Int)) []))) = H2
      have hob2 : H2 p = some (.ins C dx (putF "_wears" (.ref w) (putF "blocks" (.int (m : Int)) []))) := by rw [← hH2, upd_same]
      have hw2 : H2 w = some (.lst ((List.replicate m (0 : Int)).map V.int)) := by
        rw [← hH2, upd_ne npw.symm, upd_same, Int.toNat_natCast, ints_rep]
      refine ⟨_, rfl, _, rfl, by omega, by omega, fun D hD => ?_⟩
      rw [Int.toNat_natCast]
      refine rows_lc (j := 2) hD (fun _ => rfl) (by omega) fun H3 as sm g hnew => ?_
      have hob3 := sm _ _ hob2
      refine ⟨_, rfl, p, C, dx, _, rfl, hob3, T.cl, T.n3, by show 2 < 1000; decide, _, rfl, p, C, dx, _, rfl, upd_same, T.cl, T.n4, by show 3 < 1000; decide, _, rfl, p, C, dx, _, rfl, upd_same, T.cl, T.n5, by show 4 < 1000; decide, _, rfl, p, C, dx, _, rfl, upd_same, T.cl, T.n6, by show 5 < 1000; decide, ?_⟩
      rw [upd_upd, upd_upd, upd_upd]
      rw [ff_new]
      have s12 : Same H1 (upd (upd H1 l (.lst [V.int 0])) w (.lst (List.replicate (m : Int).toNat [V.int 0]).flatten)) := (same_new hl).trans (same_new hw)
      have hfree : ∀ x, H2 x = Option.none → H x = Option.none := fun x hx => by
        cases e : H x with
        | none => rfl
        | some o =>
          exfalso
          by_cases ed : x = p
          · rw [ed, hob2] at hx; cases hx
          · have h1 : H1 x = some o := by rw [← hH1, upd_ne ed]; exact e
            rw [← hH2, upd_ne ed, s12 _ _ h1] at hx; cases hx
      have hDH : H D = Option.none := hfree D hD
      have hwHH : H w = Option.none := by rw [← hH1, upd_ne npw.symm] at hwH; exact hwH
      have keep : ∀ x o, H x = some o → x ≠ p → (upd H3 p (.ins C dx (ff (m : Int) w D true .non .non))) x = some o := fun x o hx hp => by
        rw [upd_ne hp]
        refine sm _ _ ?_
        rw [← hH2, upd_ne hp]
        refine s12 _ _ ?_
        rw [← hH1, upd_ne hp]; exact hx
      have npD : p ≠ D := ne_of_none hob2 hD
      refine k1 m rfl (by omega) (by omega) w D as _ ⟨⟨dx, by rw [List.length_replicate]; exact upd_same⟩, ?_, ?_, by rw [List.length_replicate, List.length_replicate], pgs_nil, ?_, ?_⟩ hwHH hDH ?_ ?_ ?_
      · rw [upd_ne npw.symm]; exact sm _ _ hw2
      · refine g.keep (fun o h => ?_) (fun a ha o h => ?_)
        · rw [upd_ne npD.symm]; exact h
        · rw [upd_ne (ne_of_none hob2 (hnew a ha)).symm]; exact h
      · exact ne_of_none hw2 hD
      · intro h
        have := hnew w h
        rw [hw2] at this; cases this
      · intro a ha; exact hfree a (hnew a ha)
      · intro x o hx hp; exact keep x o hx (by simpa using hp)
      · intro t xs ht
        exact keep t _ ht (ne_of ht hob (by intro z; cases z))
    · have e : (decide (8 ≤ n) && decide (n ≤ 24)) = false := by
        rw [Bool.and_eq_false_iff, decide_eq_false_iff_not, decide_eq_false_iff_not]; omega
      rw [e]
      exact iteT (k2 c)
end
end Sg

set_option Elab.async false
set_option linter.all false
set_option maxRecDepth 100000
set_option maxHeartbeats 4000000
namespace Sg
open PySem PySem.Spec PyProof.Rows L2
abbrev sAtLeast : Stmt := top 3
abbrev sFrom : Stmt := top 15
abbrev sIsBlock : Stmt := top 17
abbrev sIsPage : Stmt := top 18
/-! ### lists made by a comprehension over a list -/
section
variable {K : PySem.W.Frag} {σ : L2.St} {H1 : Hp} {D a : Addr} {vs : List Nat} {j : Nat} {xs : List V} {te : TE} {Qd : Hp → Prop}
theorem lc_mapS (ys : List V) (hlen : ys.length = xs.length) (hD : H1 D = Option.none) (hx : SqL K H1 a xs) (hw : ∀ x, wipe ((wipe σ vs).set j (some x)) vs = wipe σ vs) (hz : xs.length ≤ 1000)
    (he : ∀ (i : Nat) (x y : V) (H' : Hp) (Q' : VK), xs[i]? = some x → ys[i]? = some y → Same H1 H' → (∀ H'', Same H' H'' → Q' y H'') → te ((wipe σ vs).set j (some x)) H' Q')
    (hd : ∀ H', Same H1 H' → H' D = some (.lst ys) → Qd H') :
    ∃ W : Nat → Nat → Hp → Prop, (∃ m, W 0 m (upd H1 D (.lst []))) ∧ ∀ i m H, W i m H →
      ((Itl K a).stop i H ∧ Qd H) ∨ ((Itl K a).go i H ∧ ∃ Nx : Hp → Prop, (∀ H', Nx H' → ∃ m', m' < m ∧ W (i + 1) m' H') ∧ ∀ x H', (Itl K a).yld i H x H' → gName j x (wipe σ vs) H' fun σ2 H2 => wipe σ2 vs = wipe σ vs ∧ tYes σ2 H2 fun b H3 =>
        if b = true then te σ2 H3 fun y H4 => ∃ acc, H4 D = some (.lst acc) ∧ acc.length < sizeLine ∧ Nx (upd H4 D (.lst (acc ++ [y]))) else Nx H3) := by
  refine lc_list (K := K) (a := a) (xs := xs) (fun i H' => i ≤ xs.length ∧ Same H1 H' ∧ H' D = some (.lst (ys.take i))) ⟨Nat.zero_le _, same_new hD, by rw [List.take_zero]; exact upd_same⟩ (fun i H' _ ⟨_, sm, _⟩ => sm.seq hx) ?_ ?_
  · rintro i x H' hi ⟨_, sm, hDl⟩
    have hil := (List.getElem?_eq_some_iff.mp hi).1
    have hy : ys[i]? = some (ys[i]'(by omega)) := List.getElem?_eq_getElem _
    refine ⟨hw _, yesIte (he i x _ H' _ hi hy sm fun H'' s2 => ⟨_, s2 _ _ hDl, ?_, by omega, ?_, ?_⟩)⟩
    · rw [List.length_take]; exact small1000 (by omega)
    · intro y o hy'
      rw [upd_ne (ne_of_none hy' hD)]
      exact s2 _ _ (sm _ _ hy')
    · rw [upd_same, List.take_add_one, hy]; rfl
  · rintro H' ⟨_, sm, hDl⟩
    exact hd H' sm (by rw [hDl, ← hlen, List.take_length])
theorem lc_newS (P : Nat → Addr → Hp → Prop) (hP : ∀ i q H H', (∀ x o, x ≠ D → H x = some o → H' x = some o) → P i q H → P i q H') (hD : H1 D = Option.none) (hx : SqL K H1 a xs) (hw : ∀ x, wipe ((wipe σ vs).set j (some x)) vs = wipe σ vs) (hz : xs.length ≤ 1000)
    (he : ∀ (i : Nat) (x : V) (H' : Hp) (Q' : VK), xs[i]? = some x → Same H1 H' → (∃ o, H' D = some o) → (∀ q H'', H' q = Option.none → Same H' H'' → P i q H'' → (∃ o, H'' q = some o) → Q' (.ref q) H'') → te ((wipe σ vs).set j (some x)) H' Q')
    (hd : ∀ (H' : Hp) (qs : List Addr), Same H1 H' → H' D = some (.lst (qs.map V.ref)) → qs.length = xs.length → qs.Nodup → D ∉ qs → (∀ i q, qs[i]? = some q → P i q H' ∧ H1 q = Option.none) → Qd H') :
    ∃ W : Nat → Nat → Hp → Prop, (∃ m, W 0 m (upd H1 D (.lst []))) ∧ ∀ i m H, W i m H →
      ((Itl K a).stop i H ∧ Qd H) ∨ ((Itl K a).go i H ∧ ∃ Nx : Hp → Prop, (∀ H', Nx H' → ∃ m', m' < m ∧ W (i + 1) m' H') ∧ ∀ x H', (Itl K a).yld i H x H' → gName j x (wipe σ vs) H' fun σ2 H2 => wipe σ2 vs = wipe σ vs ∧ tYes σ2 H2 fun b H3 =>
        if b = true then te σ2 H3 fun y H4 => ∃ acc, H4 D = some (.lst acc) ∧ acc.length < sizeLine ∧ Nx (upd H4 D (.lst (acc ++ [y]))) else Nx H3) := by
  refine lc_list (K := K) (a := a) (xs := xs) (fun i H' => i ≤ xs.length ∧ Same H1 H' ∧ ∃ qs : List Addr, H' D = some (.lst (qs.map V.ref)) ∧ qs.length = i ∧ qs.Nodup ∧ D ∉ qs ∧ ∀ i q, qs[i]? = some q → P i q H' ∧ H1 q = Option.none ∧ ∃ o, H' q = some o)
    ⟨Nat.zero_le _, same_new hD, [], upd_same, rfl, List.nodup_nil, by simp, fun i q h => by simp at h⟩ (fun i H' _ ⟨_, sm, _⟩ => sm.seq hx) ?_ ?_
  · rintro i x H' hi ⟨_, sm, qs, hDl, hl, nd, nD, hqs⟩
    have hil := (List.getElem?_eq_some_iff.mp hi).1
    refine ⟨hw _, yesIte (he i x H' _ hi sm ⟨_, hDl⟩ fun q H'' hq s2 hPq hqo => ⟨_, s2 _ _ hDl, ?_, by omega, ?_, qs ++ [q], ?_, ?_, ?_, ?_, ?_⟩)⟩
    · rw [List.length_map, hl]; exact small1000 (by omega)
    · intro y o hy'
      rw [upd_ne (ne_of_none hy' hD)]
      exact s2 _ _ (sm _ _ hy')
    · rw [upd_same, List.map_append]; rfl
    · rw [List.length_append, hl]; rfl
    · rw [List.nodup_append]
      refine ⟨nd, by simp, fun u hu v hv => ?_⟩
      rw [List.mem_singleton.mp hv]
      obtain ⟨n, hn⟩ := List.getElem?_of_mem hu
      obtain ⟨_, _, o, ho⟩ := hqs n u hn
      exact ne_of_none ho hq
    · intro hm
      rcases List.mem_append.mp hm with h | h
      · exact nD h
      · exact ne_of_none hDl hq (List.mem_singleton.mp h)
    · intro m u hu
      by_cases hm : m < qs.length
      · rw [List.getElem?_append_left hm] at hu
        obtain ⟨p1, p2, o, ho⟩ := hqs m u hu
        refine ⟨hP m u H' _ (fun y ob hy ho => ?_) p1, p2, ?_⟩
        · rw [upd_ne hy]; exact s2 _ _ ho
        · by_cases e : u = D
          · rw [e]; exact ⟨_, upd_same⟩
          · exact ⟨o, by rw [upd_ne e]; exact s2 _ _ ho⟩
      · have hm' : m = qs.length := by
          have := (List.getElem?_eq_some_iff.mp hu).1
          rw [List.length_append] at this
          simp only [List.length_cons, List.length_nil] at this
          omega
        subst hm'
        rw [List.getElem?_append_right (Nat.le_refl _), Nat.sub_self] at hu
        have e : q = u := by simpa using hu
        subst e
        rw [hl]
        obtain ⟨o, ho⟩ := hqo
        refine ⟨hP i q H'' _ (fun y ob hy ho => by rw [upd_ne hy]; exact ho) hPq, sm.free hq, o, ?_⟩
        rw [upd_ne (ne_of_none hDl hq).symm]; exact ho
  · rintro H' ⟨_, sm, qs, hDl, hl, nd, nD, hqs⟩
    exact hd H' qs sm hDl hl nd nD fun i q h => ⟨(hqs i q h).1, (hqs i q h).2.1⟩
end
/-! ### pages of any kind -/
def pgB : V → Bool
  | .str x => decide (x = "torn")
  | _ => true
def isNon (v : V) : Bool := decide (v = .non)
def AnyPg (H : Hp) (v : V) : Prop := v = .non ∨ (∃ x, v = .str x ∧ PyData.strOk x = true) ∨ (∃ t xs, v = .ref t ∧ H t = some (.tup xs) ∧ xs.all flatC = true)
theorem AnyPg.same {H H' : Hp} {v : V} (h : AnyPg H v) (s : Same H H') : AnyPg H' v := by
  rcases h with h | h | ⟨t, xs, e, ht, hx⟩
  · exact .inl h
  · exact .inr (.inl h)
  · exact .inr (.inr ⟨t, xs, e, s _ _ ht, hx⟩)
theorem PgN.any {H : Hp} {v : V} (h : PgN H v) : AnyPg H v ∧ pgB v = true ∧ isNon v = false := by
  rcases h with rfl | ⟨t, xs, rfl, ht, hx⟩
  · exact ⟨.inr (.inl ⟨_, rfl, by decide +kernel⟩), by decide +kernel, by decide +kernel⟩
  · exact ⟨.inr (.inr ⟨t, xs, rfl, ht, hx⟩), rfl, decide_eq_false (by intro z; cases z)⟩
theorem AnyPg.dp {K : PySem.W.Frag} {H : Hp} {v : V} (h : AnyPg H v) : ∃ d, Dp K H v d ∧ d.canLay0 = true ∧ d.depth ≤ 1 ∧ PyData.eqv d .none = isNon v := by
  rcases h with rfl | ⟨x, rfl, hx⟩ | ⟨t, xs, rfl, ht, hx⟩
  · exact ⟨.none, .non, by simp [PyData.canLay0], by simp [PyData.depth], by simp [PyData.eqv, isNon]⟩
  · exact ⟨.str x, .str _, by simpa [PyData.canLay0] using hx, by simp [PyData.depth], by simp [PyData.eqv, isNon]⟩
  · obtain ⟨a1, a2, a3⟩ := flats_dp (K := K) (H := H) hx
    exact ⟨.tuple (xs.map dFlat), .tup (SqT.of ht) a1, by simpa [PyData.canLay0] using a2, by simp [PyData.depth, a3], by simp [PyData.eqv, isNon]⟩
theorem anys_dp {K : PySem.W.Frag} {H : Hp} : ∀ {vs : List V}, (∀ v ∈ vs, AnyPg H v) → ∃ ds, DpAll K H vs ds ∧ PyData.canLayAll0 ds = true ∧ PyData.depthAll ds ≤ 1 ∧ ds.map (fun z => PyData.eqv z .none) = vs.map isNon
  | [], _ => ⟨[], .nil, by simp [PyData.canLayAll0], by simp [PyData.depthAll], rfl⟩
  | v :: vs, h => by
    obtain ⟨d, a1, a2, a3, a4⟩ := (h v List.mem_cons_self).dp (K := K)
    obtain ⟨ds, b1, b2, b3, b4⟩ := anys_dp (K := K) (fun v hv => h v (List.mem_cons_of_mem _ hv))
    refine ⟨d :: ds, .cons a1 b1, by simp [PyData.canLayAll0, a2, b2], ?_, ?_⟩
    · simp only [PyData.depthAll]; omega
    · rw [List.map_cons, List.map_cons, a4, b4]
theorem count_of {ds : List PyData} {vs : List V} (h : ds.map (fun z => PyData.eqv z .none) = vs.map isNon) : ds.countP (fun z => PyData.eqv z .none) = vs.countP isNon := by
  have a : (ds.map (fun z => PyData.eqv z .none)).countP id = ds.countP (fun z => PyData.eqv z .none) := by rw [List.countP_map]; rfl
  have b : (vs.map isNon).countP id = vs.countP isNon := by rw [List.countP_map]; rfl
  rw [← a, ← b, h]
theorem any_of {ds : List PyData} {vs : List V} (h : ds.map (fun z => PyData.eqv z .none) = vs.map isNon) : ds.any (fun z => PyData.eqv z .none) = vs.any isNon := by
  have a : (ds.map (fun z => PyData.eqv z .none)).any id = ds.any (fun z => PyData.eqv z .none) := by rw [List.any_map]; rfl
  have b : (vs.map isNon).any id = vs.any isNon := by rw [List.any_map]; rfl
  rw [← a, ← b, h]
def wB : V → Bool
  | .int i => decide (0 ≤ i)
  | _ => false
/-- what is answered of a tuple (wear, list of pages) -/
def blkB (wv : V) (pgs : List V) : Bool := wB wv && (decide (pgs.length = 8) && (pgs.all pgB && !((pgs.take (8 - pgs.countP isNon)).any isNon)))
/-- an entry, and what is answered of it -/
def IsB (H : Hp) (e : V) (b : Bool) : Prop := (∃ t xs, e = .ref t ∧ H t = some (.lst xs) ∧ b = false) ∨
  (∃ t wv pl pgs, e = .ref t ∧ H t = some (.tup [wv, .ref pl]) ∧ ((∃ i, wv = .int i) ∨ ∃ c, wv = .bl c) ∧ H pl = some (.lst pgs) ∧ pgs.length ≤ 100 ∧ (∀ v ∈ pgs, AnyPg H v) ∧ b = blkB wv pgs)
theorem IsB.same {H H' : Hp} {e : V} {b : Bool} (h : IsB H e b) (s : Same H H') : IsB H' e b := by
  rcases h with ⟨t, xs, h1, h2, h3⟩ | ⟨t, wv, pl, pgs, h1, h2, h3, h4, h5, h6, h7⟩
  · exact .inl ⟨t, xs, h1, s _ _ h2, h3⟩
  · exact .inr ⟨t, wv, pl, pgs, h1, s _ _ h2, h3, s _ _ h4, h5, fun v hv => (h6 v hv).same s, h7⟩
def spAtLeast (K : PySem.W.Frag) : Sp := fun vs H Q _ => ∃ (x : V) (lo : Int), vs = [x, .int lo] ∧
  ((∃ i, x = .int i ∧ Q (.bl (decide (lo ≤ i))) H) ∨ (∃ t b1 b2, TyX K H x t ∧ PySem.W.kitOne K t (.type "int") = some b1 ∧ PySem.W.kitOne K t (.type "bool") = some b2 ∧ (b1 && !b2) = false ∧ Q (.bl false) H))
def spIsPage : Sp := fun vs H Q _ => ∃ v, vs = [v] ∧ AnyPg H v ∧ Q (.bl (pgB v)) H
def spFirst2 : Sp := fun vs H Q _ => ∃ a xs, vs = [.ref a] ∧ H a = some (.lst xs) ∧ xs.length ≤ 8 ∧ (∀ v ∈ xs, AnyPg H v) ∧ Q (.int ((8 - xs.countP isNon : Nat) : Int)) H
def spIsBlock : Sp := fun vs H Q _ => ∃ e b, vs = [e] ∧ IsB H e b ∧ ∀ H', Same H H' → Q (.bl b) H'
/-- more that the top has written -/
structure FX (mg : Str → Option Value) : Prop where
  str : mg "str" = Option.none
  all : mg "all" = Option.none
  torn : ∃ t, mg "TORN" = some (.str "torn" t)
section
variable {P : Program} {wd : World} {K : PySem.W.Frag} {mg : Str → Option Value} {base : Heap} {f C CN CP CS fW fB fk fk2 fk3 fk4 : Addr} {fd fdB fdW fdk fdk2 fdk3 fdk4 : FuncData}
theorem scAtLeast : FnScope ["value", "low"] ["value", "low"] (defScope sAtLeast) := ⟨rfl, rfl, rfl, by decide +kernel, rfl, by decide +kernel, by decide +kernel⟩
theorem ok_atLeast (F : Fun K "is_at_least" "is_at_least" sAtLeast f fd) (B : Bds mg fW) (FW : Fun K "is_whole" "is_whole" sWhole fW fdW) (bW : Binds K fdW ["value"] []) : FnOk P wd K mg base CX0 2 f fd ["value", "low"] (spAtLeast K) := by
  have GW : FnOk P wd K mg base CX0 1 fW fdW ["value"] (spWhole K) := ok_whole FW B
  refine F.ok scAtLeast (fun vs H Q E h => ?_) (fun cdv A outer s H vs Q E hr h => ?_)
  · obtain ⟨x, lo, rfl, _⟩ := h
    rfl
  · obtain ⟨x, lo, rfl, h⟩ := h
    refine ⟨_, pss_one (ps_ret (pe_and (pe_call GW hr (by rfl) B.gW FW.kp bW .nil pass0 (pa_cons (pv 0) pa_nil)) (pe_one (pe_cmpR op_ge (pv 0) (pv 1) (nomark _))))), ?_⟩
    rcases h with ⟨i, rfl, q⟩ | ⟨t, b1, b2, ty, h1, h2, hb, q⟩
    · exact ⟨_, rfl, _, _, true, false, rfl, .base (.int i), kit_ii, kit_ib, true, rfl, iteT ⟨_, rfl, _, rfl, _, _, rfl, rfl, q⟩⟩
    · refine ⟨_, rfl, x, t, b1, b2, rfl, ty, h1, h2, _, rfl, ?_⟩
      rw [hb]
      exact iteF q
theorem scIsPage : FnScope ["page"] ["page"] (defScope sIsPage) := ⟨rfl, rfl, rfl, by decide +kernel, rfl, by decide +kernel, by decide +kernel⟩
theorem ok_isPage (F : Fun K "_is_page" "_is_page" sIsPage f fd) (T : FT K mg C CN CP CS fW fB) (Y : FX mg) : FnOk P wd K mg base CX0 1 f fd ["page"] spIsPage := by
  obtain ⟨tk, htorn⟩ := Y.torn
  refine F.ok scIsPage (fun vs H Q E h => ?_) (fun cdv A outer s H vs Q E hr h => ?_)
  · obtain ⟨v, rfl, _⟩ := h
    rfl
  · obtain ⟨v, rfl, hv, q⟩ := h
    refine ⟨_, pss_cons (ps_if (pt_val (pe_callB call_isi (by rfl) T.bd.isi boot_isi (pa_cons (pv 0) (pa_cons (pe_bltn (v := .ty "str") (by rfl) Y.str boot_str rfl) pa_nil)))) (pss_one (ps_ret (pe_cmpR op_eq (pv 0) (pe_glob (v := .str "torn") (by rfl) htorn ⟨_, rfl⟩) (nomark _)))) pss_nil)
      (pss_one (ps_ret (pe_or (pe_cmpR op_isN (pv 0) pe_non (nomark _)) (pe_one (pe_callB call_isi (by rfl) T.bd.isi boot_isi (pa_cons (pv 0) (pa_cons (pe_bltn (v := .ty "tuple") (by rfl) T.tup boot_tuple rfl) pa_nil))))))), ?_⟩
    rcases hv with rfl | ⟨x, rfl, hx⟩ | ⟨t, xs, rfl, ht, hx⟩
    · refine ⟨_, rfl, _, _, _, _, false, rfl, .ty "str", .base .non, kit_ty (by decide +kernel), _, rfl, iteF ?_⟩
      refine ⟨_, rfl, rfl, _, rfl, ?_⟩
      rw [decide_eq_true rfl]
      exact iteT q
    · refine ⟨_, rfl, _, _, _, _, true, rfl, .ty "str", .base (.str x), kit_ty (by decide +kernel), _, rfl, iteT ?_⟩
      refine ⟨_, rfl, rfl, ?_⟩
      have e : decide (V.str x = V.str "torn") = pgB (.str x) := by
        show _ = decide (x = "torn")
        by_cases h : x = "torn"
        · rw [decide_eq_true h, decide_eq_true (by rw [h])]
        · rw [decide_eq_false h, decide_eq_false (by intro z; cases z; exact h rfl)]
      rw [e]; exact q
    · refine ⟨_, rfl, _, _, _, _, false, rfl, .ty "str", .base (.tup ht), kit_ty (by decide +kernel), _, rfl, iteF ?_⟩
      refine ⟨_, rfl, rfl, _, rfl, ?_⟩
      rw [decide_eq_false (by intro z; cases z)]
      exact iteF ⟨_, rfl, _, _, _, _, true, rfl, .ty "tuple", .base (.tup ht), kit_ty (by decide +kernel), q⟩
theorem ok_first2 (F : Fun K "first_erased" "first_erased" sFirst f fd) (T : FT K mg C CN CP CS fW fB) : FnOk P wd K mg base CX0 1 f fd ["pages"] spFirst2 := by
  obtain ⟨tk, hpag⟩ := T.pag
  refine F.ok scFirst (fun vs H Q E h => ?_) (fun cdv A outer s H vs Q E hr h => ?_)
  · obtain ⟨a, xs, rfl, _⟩ := h
    rfl
  · obtain ⟨a, xs, rfl, ha, h8, hx, q⟩ := h
    refine ⟨_, pss_one (ps_ret (pe_op op_sub (pe_glob (v := .int 8) (by rfl) hpag ⟨_, rfl⟩) (pe_bm PySem.F.plainAttrs_list PySem.F.slot_list_count PySem.F.type_list_count (mt_countD (hu65 hr)) (pv 0) (pa_cons pe_non pa_nil)))), ?_⟩
    obtain ⟨ds, d1, d2, d3, d4⟩ := anys_dp (K := K) hx
    refine ⟨_, rfl, .inl ⟨rfl, _, SqL.of ha⟩, a, .non, .none, ds, rfl, rfl, .lst (SqL.of ha) d1, .non, shaped_list d2 (by omega), by decide, _, _, rfl, rfl, ?_⟩
    have e : (8 : Int) - ((ds.countP (fun z => PyData.eqv z .none) : Nat) : Int) = ((8 - xs.countP isNon : Nat) : Int) := by
      have := List.countP_le_length (p := isNon) (l := xs)
      rw [count_of d4]; omega
    show Q (.int ((8 : Int) - ((ds.countP (fun z => PyData.eqv z .none) : Nat) : Int))) H
    rw [e]; exact q
theorem scIsBlock : FnScope ["entry", "wear", "pages", "page"] ["entry"] (defScope sIsBlock) := ⟨rfl, rfl, rfl, by decide +kernel, rfl, by decide +kernel, by decide +kernel⟩
theorem cut_take {pgs : List V} {n : Nat} (h : n ≤ pgs.length) : cutV pgs Option.none (some (n : Int)) = pgs.take n := by
  unfold cutV
  rw [HT.sIx_none, HT.sIx_nat, List.drop_zero, Nat.sub_zero, Nat.min_eq_left h]
def rAllL (K : PySem.W.Frag) : List V → Hp → VK → Prop := rAll K
theorem ok_isBlock (F : Fun K "_is_block" "_is_block" sIsBlock f fd) (T : FT K mg C CN CP CS fW fB) (Y : FX mg)
    (GL : FnOk P wd K mg base CX0 2 fk fdk ["value", "low"] (spAtLeast K)) (bL : Binds K fdk ["value", "low"] []) (kL : PySem.W.keepIn K (.ref fk) = true) (mL : mg "is_at_least" = some (.ref fk))
    (GP : FnOk P wd K mg base CX0 1 fk2 fdk2 ["page"] spIsPage) (bP : Binds K fdk2 ["page"] []) (kP : PySem.W.keepIn K (.ref fk2) = true) (mP : mg "_is_page" = some (.ref fk2))
    (GF : FnOk P wd K mg base CX0 1 fk3 fdk3 ["pages"] spFirst2) (bF : Binds K fdk3 ["pages"] []) (kF : PySem.W.keepIn K (.ref fk3) = true) (mF : mg "first_erased" = some (.ref fk3)) :
    FnOk P wd K mg base CX0 3 f fd ["entry"] spIsBlock := by
  obtain ⟨tk, hpag⟩ := T.pag
  refine F.ok scIsBlock (fun vs H Q E h => ?_) (fun cdv A outer s H vs Q E hr h => ?_)
  · obtain ⟨e, b, rfl, _⟩ := h
    rfl
  · obtain ⟨e, b, rfl, hb, k⟩ := h
    have hr1 : Room 1 _ := hr.mono (by decide)
    refine ⟨_, pss_cons (ps_if (PW.pt (pw_or (pt_not (pt_val (pe_callB call_isi (by rfl) T.bd.isi boot_isi (pa_cons (pv 0) (pa_cons (pe_bltn (v := .ty "tuple") (by rfl) T.tup boot_tuple rfl) pa_nil))))) (pw_or1 (pt_cmpR op_ne (pe_callB call_len_seq (by rfl) T.bt.len PySem.boot_len (pa_cons (pv 0) pa_nil)) pe_int (nomark _))))) (pss_one (ps_ret pe_bl)) pss_nil)
      (pss_cons (ps_asg (pv 0) (pg_tup (by rfl) (pgs_cons (pg_name (i := 1) scIsBlock.nd rfl (Or.inl rfl)) (pgs_cons (pg_name (i := 2) scIsBlock.nd rfl (Or.inl rfl)) L2.pgs_nil))))
      (pss_cons (ps_if (PW.pt (pw_or (pt_not (pt_val (pe_call GL hr (by rfl) mL kL bL .nil pass0 (pa_cons (pv 1) (pa_cons pe_int pa_nil))))) (pw_or (pt_not (pt_val (pe_callB call_isi (by rfl) T.bd.isi boot_isi (pa_cons (pv 2) (pa_cons (pe_bltn (v := .ty "list") (by rfl) T.lst boot_list rfl) pa_nil)))))
          (pw_or1 (pt_cmpR op_ne (pe_callB call_len_seq (by rfl) T.bt.len PySem.boot_len (pa_cons (pv 2) pa_nil)) (pe_glob (v := .int 8) (by rfl) hpag ⟨_, rfl⟩) (nomark _)))))) (pss_one (ps_ret pe_bl)) pss_nil)
      (pss_cons (ps_if (pt_not (pt_val (pe_callB (cr_all rfl) (by rfl) Y.all (by decide +kernel) (pa_cons (pe_lc (own := [("page", 3)]) (g := gName 3) (tt := tYes) (te := tCall spIsPage [] E0 (tCons (tVar 3) tNil)) (by rfl) scIsBlock.nd (pi_list (pv 2))
          (blkOk_by (own := [("page", 3)]) (N := ["entry", "wear", "pages", "page"]) (sc := defScope sIsBlock) (by decide +kernel)) (fun _ _ _ _ _ => pg_name (i := 3) scIsBlock.nd rfl (Or.inl rfl)) (fun _ _ _ _ _ => pts_nil)
          (fun _ _ _ _ _ => by exact (pe_call GP hr1 (by rfl) mP kP bP .nil pass0 (pa_cons (pv 3) pa_nil)))) pa_nil)))) (pss_one (ps_ret pe_bl)) pss_nil)
      (pss_one (ps_ret (pe_cmpR (op_notInD (hu65 hr)) pe_non (pe_slice sl_list (pv 2) po_none (po_some (pe_call GF hr1 (by rfl) mF kF bF .nil pass0 (pa_cons (pv 2) pa_nil)))) (by rfl))))))), ?_⟩
    rcases hb with ⟨t, xs, rfl, ht, rfl⟩ | ⟨t, wv, pl, pgs, rfl, ht, hwv, hpl, hlen, hany, rfl⟩
    · refine ⟨_, rfl, _, _, _, _, false, rfl, .ty "tuple", .base (.lst ht), kit_ty (by decide +kernel), _, rfl, ?_⟩
      exact iteT (iteT (k H (Same.refl H)))
    · refine ⟨_, rfl, _, _, _, _, true, rfl, .ty "tuple", .base (.tup ht), kit_ty (by decide +kernel), _, rfl, ?_⟩
      refine iteF ⟨_, rfl, t, _, rfl, .inr (SqT.of ht), rfl, _, rfl, ?_⟩
      rw [decide_eq_true (show V.int (([wv, V.ref pl] : List V).length : Nat) = V.int 2 from rfl)]
      refine iteF ?_
      refine ⟨_, rfl, t, _, rfl, SqT.of ht, rfl, wv, _, rfl, .ref pl, _, rfl, rfl, ?_⟩
      rcases hwv with ⟨i, rfl⟩ | ⟨c, rfl⟩
      · refine ⟨_, rfl, _, 0, rfl, .inl ⟨i, rfl, _, rfl, ?_⟩⟩
        by_cases hi : 0 ≤ i
        · rw [decide_eq_true hi]
          refine iteF ?_
          have eb : blkB (.int i) pgs = (decide (pgs.length = 8) && (pgs.all pgB && !((pgs.take (8 - pgs.countP isNon)).any isNon))) := by
            unfold blkB; rw [show wB (.int i) = decide (0 ≤ i) from rfl, decide_eq_true hi, Bool.true_and]
          rw [eb] at k
          refine ⟨_, rfl, _, _, _, _, true, rfl, .ty "list", .base (.lst hpl), kit_ty (by decide +kernel), _, rfl, iteF ?_⟩
          refine ⟨_, rfl, pl, _, rfl, .inl (SqL.of hpl), rfl, _, rfl, ?_⟩
          by_cases h8 : pgs.length = 8
          · rw [decide_eq_true (show V.int (pgs.length : Nat) = V.int 8 by rw [h8]; rfl)]
            refine iteF ?_
            rw [decide_eq_true h8, Bool.true_and] at k
            refine ⟨_, rfl, pl, rfl, ⟨_, SqL.of hpl⟩, fun D hD => ?_⟩
            refine lc_mapS (pgs.map fun v => V.bl (pgB v)) (by rw [List.length_map]) hD (SqL.of hpl) (fun _ => rfl) (by omega) (fun i x y H' Q' hx hy s1 q => ?_) fun H' s1 hDl => ?_
            · rw [List.getElem?_map, hx] at hy
              have ey : V.bl (pgB x) = y := Option.some.inj hy
              subst ey
              exact ⟨_, rfl, x, rfl, (hany x (List.mem_of_getElem? hx)).same s1, q H' (Same.refl _)⟩
            have hDl' : H' D = some (.lst ((pgs.map pgB).map V.bl)) := by rw [hDl, List.map_map]; rfl
            refine ⟨D, pgs.map pgB, rfl, SqL.of hDl', _, rfl, ?_⟩
            have eall : (pgs.map pgB).all id = pgs.all pgB := by rw [List.all_map]; rfl
            rw [eall]
            cases hall : pgs.all pgB with
            | false =>
              rw [hall, Bool.false_and] at k
              exact iteT (k H' s1)
            | true =>
              rw [hall, Bool.true_and] at k
              refine iteF ?_
              have hpl' := s1 _ _ hpl
              have hany' : ∀ v ∈ pgs, AnyPg H' v := fun v hv => (hany v hv).same s1
              refine ⟨_, rfl, _, rfl, pl, pgs, rfl, hpl', by omega, hany', _, rfl, pl, pgs, rfl, SqL.of hpl', fun l hl => ?_⟩
              have hn : 8 - pgs.countP isNon ≤ pgs.length := by omega
              rw [cut_take hn]
              have s2 := same_new (o := .lst (pgs.take (8 - pgs.countP isNon))) hl
              obtain ⟨ds, d1, d2, d3, d4⟩ := anys_dp (K := K) (H := upd H' l (.lst (pgs.take (8 - pgs.countP isNon)))) (vs := pgs.take (8 - pgs.countP isNon)) fun v hv => (hany' v (List.mem_of_mem_take hv)).same s2
              refine ⟨.none, ds, .non, .lst (SqL.of upd_same) d1, by decide, shaped_list d2 (by omega), ?_⟩
              rw [any_of d4]
              exact k _ (s1.trans s2)
          · rw [decide_eq_false (show ¬ V.int (pgs.length : Nat) = V.int 8 from fun z => by have := V.int.inj z; omega)]
            rw [decide_eq_false h8, Bool.false_and] at k
            exact iteT (k H (Same.refl H))
        · rw [decide_eq_false hi]
          have eb : blkB (.int i) pgs = false := by unfold blkB; rw [show wB (.int i) = decide (0 ≤ i) from rfl, decide_eq_false hi, Bool.false_and]
          rw [eb] at k
          exact iteT (iteT (k H (Same.refl H)))
      · refine ⟨_, rfl, _, 0, rfl, .inr ⟨_, true, true, .base (.bl c), kit_ty (by decide +kernel), kit_ty (by decide +kernel), rfl, _, rfl, ?_⟩⟩
        exact iteT (iteT (k H (Same.refl H)))
end
end Sg

set_option Elab.async false
set_option linter.all false
set_option maxRecDepth 100000
set_option maxHeartbeats 4000000
namespace Sg
open PySem PySem.Spec PyProof.Rows L2
theorem ff_putW {n : Int} {w c w' : Addr} {pw : Bool} {rm it : V} : putF "_wears" (.ref w') (ff n w c pw rm it) = ff n w' c pw rm it := (put_past (by decide +kernel)).trans (congrArg _ put_here)
theorem ff_putC {n : Int} {w c c' : Addr} {pw : Bool} {rm it : V} : putF "_contents" (.ref c') (ff n w c pw rm it) = ff n w c' pw rm it := (put_past (by decide +kernel)).trans (congrArg _ ((put_past (by decide +kernel)).trans (congrArg _ put_here)))
theorem row_all {vs : List V} {H : Hp} (h : PgsN H vs) : ∀ v ∈ row vs, AnyPg H v ∧ pgB v = true := fun v hv => by
  unfold row at hv
  rcases List.mem_append.mp hv with h1 | h1
  · exact ⟨(h.2 v h1).any.1, (h.2 v h1).any.2.1⟩
  · rw [List.mem_replicate] at h1
    rw [h1.2]
    exact ⟨.inl rfl, rfl⟩
theorem row_count {vs : List V} {H : Hp} (h : PgsN H vs) : (row vs).countP isNon = 8 - vs.length := by
  unfold row
  rw [List.countP_append, List.countP_replicate, if_pos (by decide)]
  have : vs.countP isNon = 0 := by
    rw [List.countP_eq_zero]
    intro v hv
    rw [(h.2 v hv).any.2.2]; exact Bool.false_ne_true
  omega
theorem blk_row {vs : List V} {H : Hp} {w : Int} (h : PgsN H vs) (hw : 0 ≤ w) : blkB (.int w) (row vs) = true := by
  unfold blkB
  rw [show wB (.int w) = decide (0 ≤ w) from rfl, decide_eq_true hw, decide_eq_true (row_len h.1), row_count h]
  have e1 : (row vs).all pgB = true := by
    rw [List.all_eq_true]; exact fun v hv => (row_all h v hv).2
  have e2 : 8 - (8 - vs.length) = vs.length := by have := h.1; omega
  have e3 : (row vs).take vs.length = vs := by
    unfold row; rw [List.take_append_of_le_length (Nat.le_refl _), List.take_length]
  have e4 : vs.any isNon = false := by
    rw [List.any_eq_false]; intro v hv; rw [(h.2 v hv).any.2.2]; exact Bool.false_ne_true
  rw [e1, e2, e3, e4]; rfl
/-- an image that is refused -/
def BadIm (K : PySem.W.Frag) (H : Hp) (im : V) : Prop := (∃ t, TyX K H im t ∧ PySem.W.kitOne K t (.type "list") = some false) ∨
  (∃ l es, im = .ref l ∧ H l = some (.lst es) ∧ es.length ≤ 1000 ∧ (¬ (8 ≤ es.length ∧ es.length ≤ 24) ∨
    (∃ bb : List Bool, bb.length = es.length ∧ (∀ (i : Nat) (e : V) (b : Bool), es[i]? = some e → bb[i]? = some b → IsB H e b) ∧ bb.all id = false)))
def spFrom (K : PySem.W.Frag) (C CN : Addr) : Sp := fun vs H Q E => ∃ im, vs = [im] ∧ ((BadIm K H im ∧ ∀ H', Same H H' → E (.ref CN) Option.none H') ∨
  (∃ l ws ps, im = .ref l ∧ ImgAt H l ws ps ∧ 8 ≤ ps.length ∧ ps.length ≤ 24 ∧ ws.length = ps.length ∧ (∀ w ∈ ws, 0 ≤ w) ∧ Pgs H ps ∧
    ∀ p w c as H', FlashAt C H' p w c as ws ps true .non .non → H p = Option.none → H w = Option.none → H c = Option.none → (∀ a ∈ as, H a = Option.none) → Same H H' → Q (.ref p) H'))
section
variable {P : Program} {wd : World} {K : PySem.W.Frag} {mg : Str → Option Value} {base : Heap} {f C CN CP CS fW fB fk fk2 fk3 fk4 fI : Addr} {fd fdB fdW fdk fdk2 fdk3 fdk4 fdI : FuncData}
theorem scFrom : FnScope ["image", "flash", "entry"] ["image"] (defScope sFrom) := ⟨rfl, rfl, rfl, by decide +kernel, rfl, by decide +kernel, by decide +kernel⟩
theorem ok_from (F : Fun K "flash_from" "flash_from" sFrom f fd) (T : FT K mg C CN CP CS fW fB) (Y : FX mg) (M : Mk K C fI) (GI : FnOk P wd K mg base (L2.CX P wd) 3 fI fdI ["self", "blocks"] (spInit C CN)) (bI : Binds K fdI ["self", "blocks"] [])
    (GK : FnOk P wd K mg base CX0 3 fk fdk ["entry"] spIsBlock) (bK : Binds K fdk ["entry"] []) (kK : PySem.W.keepIn K (.ref fk) = true) (mK : mg "_is_block" = some (.ref fk)) :
    FnOk P wd K mg base (L2.CX P wd) 5 f fd ["image"] (spFrom K C CN) := by
  refine F.okX scFrom (fun vs H Q E h => ?_) (fun cdv A outer s H vs Q E hr h => ?_)
  · obtain ⟨im, rfl, _⟩ := h
    rfl
  · obtain ⟨im, rfl, h⟩ := h
    have hr3 : Room 3 _ := hr.mono (by decide)
    refine ⟨_, pss_cons (ps_if (pt_not (pt_val (pe_callB call_isi (by rfl) T.bd.isi boot_isi (pa_cons (pv 0) (pa_cons (pe_bltn (v := .ty "list") (by rfl) T.lst boot_list rfl) pa_nil))))) (pss_one (ps_notValid T rfl (takes_of rfl rfl rfl rfl) (by rfl))) pss_nil)
      (pss_cons (ps_set (i := 1) scFrom.nd rfl (Or.inl rfl) (pe_make M GI hr (by rfl) T.gC bI .nil (passX (E := E) (takes_of rfl rfl rfl rfl) (fun _ _ _ _ z => z)) (pa_cons (pe_callB call_len_seq (by rfl) T.bt.len PySem.boot_len (pa_cons (pv 0) pa_nil)) pa_nil)))
      (pss_cons (ps_if (pt_not (pt_val (pe_callB (cr_all rfl) (by rfl) Y.all (by decide +kernel) (pa_cons (pe_lc (own := [("entry", 2)]) (g := gName 2) (tt := tYes) (te := tCall spIsBlock [] E0 (tCons (tVar 2) tNil)) (by rfl) scFrom.nd (pi_list (pv 0))
          (blkOk_by (own := [("entry", 2)]) (N := ["image", "flash", "entry"]) (sc := defScope sFrom) (by decide +kernel)) (fun _ _ _ _ _ => pg_name (i := 2) scFrom.nd rfl (Or.inl rfl)) (fun _ _ _ _ _ => pts_nil)
          (fun _ _ _ _ _ => by exact (pe_call GK hr3 (by rfl) mK kK bK .nil pass0 (pa_cons (pv 2) pa_nil)))) pa_nil)))) (pss_one (ps_notValid T rfl (takes_of rfl rfl rfl rfl) (by rfl))) pss_nil)
      (pss_cons (ps_fld (pv 1) (pe_lc (own := [("entry", 2)]) (g := gName 2) (tt := tYes) (te := tOp (rIxT K) (tVar 2) (tC (.int 0))) (by rfl) scFrom.nd (pi_list (pv 0))
          (blkOk_by (own := [("entry", 2)]) (N := ["image", "flash", "entry"]) (sc := defScope sFrom) (by decide +kernel)) (fun _ _ _ _ _ => pg_name (i := 2) scFrom.nd rfl (Or.inl rfl)) (fun _ _ _ _ _ => pts_nil)
          (fun _ _ _ _ _ => by exact (pe_ix ix_tup (pv 2) pe_int (fun _ _ => rfl)))) rfl)
      (pss_cons (ps_fld (pv 1) (pe_lc (own := [("entry", 2)]) (g := gName 2) (tt := tYes) (te := tCB (rListOf K) (tCons (tOp (rIxT K) (tVar 2) (tC (.int 1))) tNil)) (by rfl) scFrom.nd (pi_list (pv 0))
          (blkOk_by (own := [("entry", 2)]) (N := ["image", "flash", "entry"]) (sc := defScope sFrom) (by decide +kernel)) (fun _ _ _ _ _ => pg_name (i := 2) scFrom.nd rfl (Or.inl rfl)) (fun _ _ _ _ _ => pts_nil)
          (fun _ _ _ _ _ => by exact (pe_callTy call_listOf (by rfl) T.lst boot_list (pa_cons (pe_ix ix_tup (pv 2) pe_int (fun _ _ => rfl)) pa_nil)))) rfl)
      (pss_one (ps_ret (pv 1))))))), ?_⟩
    rcases h with ⟨hbad, k⟩ | ⟨l, ws, ps, rfl, him, h8, h24, hlw, hw0, hpg, k⟩
    · rcases hbad with ⟨t, ty, kit⟩ | ⟨l, es, rfl, hl, hlen, hc⟩
      · exact ⟨_, rfl, im, _, t, _, false, rfl, .ty "list", ty, kit, _, rfl, iteT (k H (Same.refl H))⟩
      · refine ⟨_, rfl, _, _, _, _, true, rfl, .ty "list", .base (.lst hl), kit_ty (by decide +kernel), _, rfl, iteF ?_⟩
        refine ⟨_, rfl, l, _, rfl, .inl (SqL.of hl), fun p dx hp hdx hne => ?_⟩
        have s0 : Same H (upd (upd H dx (.own p)) p (.ins C dx [])) := fun x o hx => by
          rw [upd_ne (ne_of_none hx hp), upd_ne (ne_of_none hx hdx)]; exact hx
        refine ⟨p, dx, _, rfl, upd_same, fun m hm h8 h24 w c as H2 FA hw hc' has off tup => ⟨rfl, ?_⟩, fun hn => k _ s0⟩
        have em : m = es.length := by omega
        rcases hc with hc | ⟨bb, hbl, hbb, hall⟩
        · exact absurd ⟨by omega, by omega⟩ hc
        have s2 : Same H H2 := fun x o hx => off _ _ (s0 _ _ hx) (by rw [List.mem_singleton]; exact ne_of_none hx hp)
        refine ⟨_, rfl, l, rfl, ⟨_, SqL.of (s2 _ _ hl)⟩, fun D hD => ?_⟩
        refine lc_mapS (bb.map V.bl) (by rw [List.length_map, hbl]) hD (SqL.of (s2 _ _ hl)) (fun _ => rfl) hlen (fun i x y H' Q' hx hy s3 q => ?_) fun H3 s3 hDl => ?_
        · rw [List.getElem?_map] at hy
          cases e : bb[i]? with
          | none => rw [e] at hy; cases hy
          | some b =>
            rw [e] at hy
            have ey : V.bl b = y := Option.some.inj hy
            subst ey
            exact ⟨_, rfl, x, b, rfl, ((hbb i x b hx e).same s2).same s3, fun H'' s4 => q H'' s4⟩
        · refine ⟨D, bb, rfl, SqL.of hDl, _, rfl, ?_⟩
          rw [hall]
          exact iteT (k H3 (s2.trans s3))
    · obtain ⟨tr, hl, htl, htr⟩ := id him
      refine ⟨_, rfl, _, _, _, _, true, rfl, .ty "list", .base (.lst hl), kit_ty (by decide +kernel), _, rfl, iteF ?_⟩
      refine ⟨_, rfl, l, _, rfl, .inl (SqL.of hl), fun p dx hp hdx hne => ?_⟩
      have s0 : Same H (upd (upd H dx (.own p)) p (.ins C dx [])) := fun x o hx => by
        rw [upd_ne (ne_of_none hx hp), upd_ne (ne_of_none hx hdx)]; exact hx
      refine ⟨p, dx, _, rfl, upd_same, fun m hm h8' h24' w c as H2 FA hw hc' has off tup => ⟨rfl, ?_⟩, fun hn => absurd ⟨by rw [List.length_map, htl]; omega, by rw [List.length_map, htl]; omega⟩ hn⟩
      have em : m = ps.length := by rw [List.length_map, htl] at hm; omega
      subst em
      have s2 : Same H H2 := fun x o hx => off _ _ (s0 _ _ hx) (by rw [List.mem_singleton]; exact ne_of_none hx hp)
      have hl2 := s2 _ _ hl
      -- all entries are good
      refine ⟨_, rfl, l, rfl, ⟨_, SqL.of hl2⟩, fun D hD => ?_⟩
      refine lc_mapS ((List.replicate ps.length true).map V.bl) (by rw [List.length_map, List.length_map, List.length_replicate, htl]) hD (SqL.of hl2) (fun _ => rfl) (by rw [List.length_map, htl]; omega) (fun i x y H' Q' hx hy s3 q => ?_) fun H3 s3 hDl => ?_
      · have ey : y = V.bl true := by
          have := List.mem_of_getElem? hy
          obtain ⟨b, hb, e⟩ := List.mem_map.mp this
          rw [List.mem_replicate] at hb
          rw [← e, hb.2]
        subst ey
        obtain ⟨t, ht, rfl⟩ := map_get hx
        obtain ⟨wv, c', vs, a1, a2, a3, a4⟩ := htr i t ht
        have hv := hpg vs (List.mem_of_getElem? a2)
        have hb : IsB H (.ref t) true := .inr ⟨t, .int wv, c', row vs, rfl, a3, .inl ⟨wv, rfl⟩, a4, by rw [row_len hv.1]; omega, fun v h => (row_all hv v h).1, (blk_row hv (hw0 wv (List.mem_of_getElem? a1))).symm⟩
        exact ⟨_, rfl, _, true, rfl, (hb.same s2).same s3, fun H'' s4 => q H'' s4⟩
      refine ⟨D, _, rfl, SqL.of hDl, _, rfl, ?_⟩
      rw [show (List.replicate ps.length true).all id = true by rw [List.all_eq_true]; intro b hb; rw [List.mem_replicate] at hb; exact hb.2]
      refine iteF ?_
      have FA3 := FA.same' s3
      obtain ⟨dx3, hob3⟩ := id FA3.ob
      have s03 := s2.trans s3
      -- flash._wears = [entry[0] for entry in image]
      refine ⟨_, rfl, l, rfl, ⟨_, SqL.of (s03 _ _ hl)⟩, fun D1 hD1 => ?_⟩
      refine lc_mapS (ws.map V.int) (by rw [List.length_map, List.length_map, hlw, htl]) hD1 (SqL.of (s03 _ _ hl)) (fun _ => rfl) (by rw [List.length_map, htl]; omega) (fun i x y H' Q' hx hy s4 q => ?_) fun H4 s4 hD1l => ?_
      · obtain ⟨t, ht, rfl⟩ := map_get hx
        obtain ⟨wv, c', vs, a1, a2, a3, a4⟩ := htr i t ht
        obtain ⟨wv', e1, rfl⟩ := map_get hy
        rw [a1] at e1; cases e1
        exact ⟨_, rfl, t, _, _, _, rfl, rfl, SqT.of (s4 _ _ (s03 _ _ a3)), atI_nat (j := 0) rfl, q H' (Same.refl _)⟩
      have hob4 := s4 _ _ hob3
      have s04 := s03.trans s4
      refine ⟨_, rfl, p, C, dx3, _, rfl, hob4, T.cl, T.n2, ff_len, ?_⟩
      rw [ff_putW]
      have npD1 : p ≠ D1 := ne_of_none hob3 hD1
      generalize hH5 : upd H4 p (.ins C dx3 (ff ((List.replicate ps.length ([] : List V)).length : Int) D1 c true .non .non)) = H5
      have hob5 : H5 p = some (.ins C dx3 (ff ((List.replicate ps.length ([] : List V)).length : Int) D1 c true .non .non)) := by rw [← hH5, upd_same]
      have s05 : Same H H5 := fun x o hx => by rw [← hH5, upd_ne (ne_of_none hx hp)]; exact s04 _ _ hx
      have hD1l5 : H5 D1 = some (.lst (ws.map V.int)) := by rw [← hH5, upd_ne npD1.symm]; exact hD1l
      have hD1H : H D1 = Option.none := s03.free hD1
      -- flash._contents = [list(entry[1]) for entry in image]
      refine ⟨_, rfl, l, rfl, ⟨_, SqL.of (s05 _ _ hl)⟩, fun D2 hD2 => ?_⟩
      refine lc_newS (fun i q H' => q ≠ D2 ∧ ∃ vs, ps[i]? = some vs ∧ H' q = some (.lst (row vs))) (fun i q Ha Hb hab ⟨n1, vs, e1, e2⟩ => ⟨n1, vs, e1, hab _ _ n1 e2⟩) hD2 (SqL.of (s05 _ _ hl)) (fun _ => rfl) (by rw [List.length_map, htl]; omega) (fun i x H' Q' hx s6 hDo q => ?_) fun H6 qs s6 hD2l hql hqn hqD hq => ?_
      · obtain ⟨t, ht, rfl⟩ := map_get hx
        obtain ⟨wv, c', vs, a1, a2, a3, a4⟩ := htr i t ht
        refine ⟨_, rfl, t, _, _, _, rfl, rfl, SqT.of (s6 _ _ (s05 _ _ a3)), atI_nat (j := 1) rfl, c', _, rfl, .inl (SqL.of (s6 _ _ (s05 _ _ a4))), fun q' hq' => ?_⟩
        obtain ⟨o, ho⟩ := hDo
        exact q q' _ hq' (same_new hq') ⟨(ne_of_none ho hq').symm, vs, a2, upd_same⟩ ⟨_, upd_same⟩
      have hob6 := s6 _ _ hob5
      refine ⟨_, rfl, p, C, dx3, _, rfl, hob6, T.cl, T.n3, ff_len, ?_⟩
      rw [ff_putC]
      have npD2 : p ≠ D2 := ne_of_none hob5 hD2
      have s06 : Same H (upd H6 p (.ins C dx3 (ff ((List.replicate ps.length ([] : List V)).length : Int) D1 D2 true .non .non))) := fun x o hx => by rw [upd_ne (ne_of_none hx hp)]; exact s6 _ _ (s05 _ _ hx)
      have hfree : ∀ x, H5 x = Option.none → H x = Option.none := fun x hx => s05.free hx
      refine ⟨_, rfl, k p D1 D2 qs _ ⟨⟨dx3, ?_⟩, ?_, ⟨?_, ?_, hqn, hqD, ?_⟩, hlw, hpg.mono (same_tups s06), ?_, ?_⟩ hp hD1H (hfree D2 hD2) (fun a ha => ?_) s06⟩
      · rw [upd_same, List.length_replicate]
      · rw [upd_ne npD1.symm]; exact s6 _ _ hD1l5
      · rw [upd_ne npD2.symm]; exact hD2l
      · rw [hql, List.length_map, htl]
      · intro i a vs ha hvs
        obtain ⟨⟨n1, vs', e1, e2⟩, e3⟩ := hq i a ha
        rw [hvs] at e1; cases e1
        rw [upd_ne (ne_of_none hob5 e3).symm]; exact e2
      · exact ne_of_none hD1l5 hD2
      · intro hm
        obtain ⟨j, hj⟩ := List.getElem?_of_mem hm
        exact ne_of_none hD1l5 (hq j D1 hj).2 rfl
      · obtain ⟨j, hj⟩ := List.getElem?_of_mem ha
        exact hfree a (hq j a hj).2
end
end Sg

set_option Elab.async false
set_option linter.all false
set_option maxRecDepth 100000
set_option maxHeartbeats 4000000
namespace Sg
open PySem PySem.Spec PyProof.Rows L2
abbrev sPages : Stmt := top 22
abbrev sSpoil : Stmt := top 23
abbrev sTold : Stmt := top 24
abbrev sToldSize : Stmt := top 25
abbrev sLaw : Stmt := top 26
def spPages : Sp := fun vs H Q _ => ∃ nu pk : Int, vs = [.int nu, .int pk] ∧ 0 ≤ nu ∧ 0 ≤ pk ∧ ∀ l xs H', H l = Option.none → Same H H' → H' l = some (.lst (row xs)) → PgsN H' xs → Q (.ref l) H'
theorem pgs4 {H : Hp} {t1 t2 t3 : Addr} {x y z : Int} (h1 : H t1 = some (.tup [.int x, .int y])) (h2 : H t2 = some (.tup [.int z])) (h3 : H t3 = some (.tup [])) : ∀ j, j < 4 → ∃ rv, ([.ref t1, .str "torn", .ref t2, .ref t3] : List V)[j]? = some rv ∧ PgN H rv
  | 0, _ => ⟨_, rfl, .inr ⟨t1, _, rfl, h1, rfl⟩⟩
  | 1, _ => ⟨_, rfl, .inl rfl⟩
  | 2, _ => ⟨_, rfl, .inr ⟨t2, _, rfl, h2, rfl⟩⟩
  | 3, _ => ⟨_, rfl, .inr ⟨t3, _, rfl, h3, rfl⟩⟩
  | n + 4, h => by omega
def spSpoil (K : PySem.W.Frag) : Sp := fun vs H Q _ => ∃ (im : Addr) (ws : List Int) (ps : List (List V)) (kd bk : Nat), vs = [.ref im, .int (kd : Int), .int (bk : Int)] ∧ ImgAt H im ws ps ∧ 8 ≤ ps.length ∧ ps.length ≤ 24 ∧ ws.length = ps.length ∧ (∀ w ∈ ws, 0 ≤ w) ∧ Pgs H ps ∧ kd < 10 ∧ bk < ps.length ∧
  ∀ v H', BadIm K H' v → Same H H' → Q v H'
section
variable {P : Program} {wd : World} {K : PySem.W.Frag} {mg : Str → Option Value} {base : Heap} {f C CN CP CS fW fB fk fk2 fk3 fk4 fI : Addr} {fd fdB fdW fdk fdk2 fdk3 fdk4 fdI : FuncData}
theorem scPages : FnScope ["number", "pick", "pages", "page"] ["number", "pick"] (defScope sPages) := ⟨rfl, rfl, rfl, by decide +kernel, rfl, by decide +kernel, by decide +kernel⟩
theorem ok_pages (F : Fun K "_law_pages" "_law_pages" sPages f fd) (B : Blt mg) : FnOk P wd K mg base CX0 1 f fd ["number", "pick"] spPages := by
  refine F.ok scPages (fun vs H Q E h => ?_) (fun cdv A outer s H vs Q E hr h => ?_)
  · obtain ⟨nu, pk, rfl, _⟩ := h
    rfl
  · obtain ⟨nu, pk, rfl, hnu, hpk, k⟩ := h
    refine ⟨_, pss_cons (ps_set (i := 2) scPages.nd rfl (Or.inl rfl) (pe_lst pa_nil))
      (pss_cons (ps_for PassesOwn.never rfl (pi_range1 (by rfl) B.range (pa_cons pe_int pa_nil)) (pg_name (i := 3) scPages.nd rfl (Or.inl rfl))
        (pss_one (ps_if (pt_cmpR op_lt (pv 3) (pe_op op_mod (pv 0) pe_int) (nomark _))
          (pss_one (ps_expr (pe_bm PySem.F.plainAttrs_list PySem.F.slot_list_append PySem.F.type_list_append mt_append (pv 2) (pa_cons (pe_ix ix_list (pe_lst (pa_cons (pe_tup (pa_cons (pv 3) (pa_cons (pv 1) pa_nil))) (pa_cons pe_str (pa_cons (pe_tup (pa_cons (pv 1) pa_nil)) (pa_cons (pe_tup pa_nil) pa_nil)))))
            (pe_op op_mod (pe_op op_add (pv 1) (pe_op op_mul (pv 3) (pv 3))) pe_int) (fun _ _ => rfl)) pa_nil))))
          (pss_one (ps_expr (pe_bm PySem.F.plainAttrs_list PySem.F.slot_list_append PySem.F.type_list_append mt_append (pv 2) (pa_cons pe_non pa_nil)))))))
      (pss_one (ps_ret (pv 2)))), ?_⟩
    refine ⟨by show 0 ≤ sizeLine; decide, fun l hl => ?_⟩
    refine ⟨8, rfl, by decide, by decide, ?_⟩
    refine for_range (lo := 0) (n := 8) (fun i σ H' => ∃ (v3 : Option V) (xs : List V), σ = [some (.int nu), some (.int pk), some (.ref l), v3] ∧ Same H H' ∧ xs.length = min i (nu % 9).toNat ∧ H' l = some (.lst (xs ++ List.replicate (i - (nu % 9).toNat) .non)) ∧ ∀ v ∈ xs, PgN H' v)
      ⟨none, [], rfl, same_new hl, by simp, by rw [upd_same]; simp, fun v hv => by cases hv⟩ ?_ ?_
    · rintro i σ H' hi ⟨v3, xs, rfl, sm, hxl, hll, hxs⟩
      have nl : ∀ x o, H x = some o → x ≠ l := fun x o hx => ne_of_none hx hl
      refine ⟨_, rfl, _, rfl, _, _, rfl, rfl, (by show (0 : Int) < 9; decide), _, _, rfl, rfl, _, rfl, ?_⟩
      refine ite2 (fun hc => ?_) (fun hc => ?_)
      · have hc' : i < (nu % 9).toNat := by have := of_decide_eq_true hc; omega
        have e0 : i - (nu % 9).toNat = 0 := by omega
        rw [e0, List.replicate_zero, List.append_nil] at hll
        have hxi : xs.length = i := by omega
        refine ⟨_, rfl, .inl ⟨rfl, _, SqL.of hll⟩, _, rfl, _, rfl, by show 2 ≤ sizeLine; decide, fun t1 h1 => ⟨_, rfl, by show 1 ≤ sizeLine; decide, fun t2 h2 => ⟨by show 0 ≤ sizeLine; decide, fun t3 h3 => ⟨by show 4 ≤ sizeLine; decide, fun l4 h4 => ?_⟩⟩⟩⟩
        have u1 := same_new (o := .tup [.int (0 + (i : Int)), .int pk]) h1
        have u2 := same_new (o := .tup [.int pk]) h2
        have u3 := same_new (o := .tup []) h3
        have u4 := same_new (o := .lst [.ref t1, .str "torn", .ref t2, .ref t3]) h4
        have e1 := u4 _ _ (u3 _ _ (u2 _ _ (upd_same (H := H') (a := t1) (o := .tup [.int (0 + (i : Int)), .int pk]))))
        have e2 := u4 _ _ (u3 _ _ (upd_same (H := upd H' t1 (.tup [.int (0 + (i : Int)), .int pk])) (a := t2) (o := .tup [.int pk])))
        have e3 := u4 _ _ (upd_same (H := upd (upd H' t1 (.tup [.int (0 + (i : Int)), .int pk])) t2 (.tup [.int pk])) (a := t3) (o := .tup []))
        have hm : 0 ≤ (pk + (0 + (i : Int)) * (0 + (i : Int))) % 4 ∧ (pk + (0 + (i : Int)) * (0 + (i : Int))) % 4 < 4 := ⟨Int.emod_nonneg _ (by decide), Int.emod_lt_of_pos _ (by decide)⟩
        obtain ⟨rv, hrv, hpn⟩ := pgs4 e1 e2 e3 ((pk + (0 + (i : Int)) * (0 + (i : Int))) % 4).toNat (by omega)
        have s4 := u1.trans (u2.trans (u3.trans u4))
        refine ⟨_, rfl, _, rfl, _, rfl, _, _, rfl, rfl, .inl ⟨by omega, by omega⟩, _, _, rfl, rfl, _, _, rfl, rfl, (by show (0 : Int) < 4; decide), l4, _, _, rv, rfl, rfl, SqL.of upd_same, at_of (show (pk + (0 + (i : Int)) * (0 + (i : Int))) % 4 = ((((pk + (0 + (i : Int)) * (0 + (i : Int))) % 4).toNat : Nat) : Int) by omega) hrv, ?_⟩
        have hll4 := s4 _ _ hll
        refine ⟨l, xs, rv, rfl, rfl, hll4, small1000 (by omega), _, xs ++ [rv], rfl, fun x o hx => ?_, ?_, ?_, fun v hv => ?_⟩
        · rw [upd_ne (nl x o hx)]; exact s4 _ _ (sm _ _ hx)
        · rw [List.length_append]; simp only [List.length_cons, List.length_nil]; omega
        · have e5 : i + 1 - (nu % 9).toNat = 0 := by omega
          rw [upd_same, e5, List.replicate_zero, List.append_nil]
        · have tp := (same_tups s4).trans (Tups.lst (o := .lst (xs ++ [rv])) hll4)
          rcases List.mem_append.mp hv with h | h
          · exact (hxs v h).mono tp
          · rw [List.mem_singleton.mp h]; exact hpn.mono (Tups.lst hll4)
      · have hc' : (nu % 9).toNat ≤ i := by
          have := of_decide_eq_false (Bool.eq_false_iff.mpr hc)
          omega
        refine ⟨_, rfl, .inl ⟨rfl, _, SqL.of hll⟩, l, _, _, rfl, rfl, hll, ?_, _, xs, rfl, fun x o hx => ?_, ?_, ?_, fun v hv => (hxs v hv).mono (Tups.lst hll)⟩
        · rw [List.length_append, List.length_replicate]; exact small1000 (by omega)
        · rw [upd_ne (nl x o hx)]; exact sm _ _ hx
        · omega
        · have e5 : i + 1 - (nu % 9).toNat = (i - (nu % 9).toNat) + 1 := by omega
          rw [upd_same, e5, List.append_assoc]
          congr 2
          congr 1
          rw [← List.replicate_append_replicate]; rfl
    · rintro σ H' ⟨v3, xs, rfl, sm, hxl, hll, hxs⟩
      refine ⟨_, rfl, k l xs H' hl sm ?_ ⟨by omega, hxs⟩⟩
      rw [hll]
      unfold row
      have : 8 - (nu % 9).toNat = 8 - xs.length := by omega
      rw [this]
theorem scSpoil : FnScope ["image", "kind", "block", "wear", "pages", "row", "k"] ["image", "kind", "block"] (defScope sSpoil) := ⟨rfl, rfl, rfl, by decide +kernel, rfl, by decide +kernel, by decide +kernel⟩
theorem isb_of {H : Hp} {t c : Addr} {w : Int} {xs : List V} (h1 : H t = some (.tup [.int w, .ref c])) (h2 : H c = some (.lst (row xs))) (hw : 0 ≤ w) (hx : PgsN H xs) : IsB H (.ref t) true :=
  .inr ⟨t, .int w, c, row xs, rfl, h1, .inl ⟨w, rfl⟩, h2, by rw [row_len hx.1]; omega, fun v h => (row_all hx v h).1, (blk_row hx hw).symm⟩
/-- one entry replaced by a bad one -/
theorem bad_set {K : PySem.W.Frag} {H : Hp} {l : Addr} {tr : List Addr} {ws : List Int} {ps : List (List V)} {bk : Nat} {e : V} (hl : H l = some (.lst ((tr.map V.ref).set bk e))) (htl : tr.length = ps.length) (h8 : ps.length ≤ 24) (hb : bk < ps.length)
    (htr : ∀ (i : Nat) (t : Addr), tr[i]? = some t → ∃ (wv : Int) (c : Addr) (vs : List V), ws[i]? = some wv ∧ ps[i]? = some vs ∧ H t = some (.tup [.int wv, .ref c]) ∧ H c = some (.lst (row vs))) (hw : ∀ w ∈ ws, 0 ≤ w) (hp : Pgs H ps) (he : IsB H e false) : BadIm K H (.ref l) := by
  refine .inr ⟨l, _, rfl, hl, by rw [List.length_set, List.length_map]; omega, .inr ⟨(List.replicate ps.length true).set bk false, by rw [List.length_set, List.length_set, List.length_map, List.length_replicate, htl], fun i x b hx hbb => ?_, ?_⟩⟩
  · rcases get_set_cases hx with ⟨rfl, rfl, _⟩ | ⟨hi, hx⟩
    · rcases get_set_cases hbb with ⟨_, rfl, _⟩ | ⟨h, _⟩
      · exact he
      · exact absurd rfl h
    · rcases get_set_cases hbb with ⟨h, _, _⟩ | ⟨_, hbb⟩
      · exact absurd h hi
      · have eb : b = true := by
          have := List.mem_of_getElem? hbb
          rw [List.mem_replicate] at this; exact this.2
        subst eb
        obtain ⟨t, ht, rfl⟩ := map_get hx
        obtain ⟨wv, c, vs, a1, a2, a3, a4⟩ := htr i t ht
        exact isb_of a3 a4 (hw wv (List.mem_of_getElem? a1)) (hp vs (List.mem_of_getElem? a2))
  · rw [List.all_eq_false]
    refine ⟨false, ?_, by simp⟩
    refine List.mem_of_getElem? (i := bk) ?_
    rw [List.getElem?_set_self (by rw [List.length_replicate]; exact hb)]
theorem cut_drop {xs : List V} {n : Nat} (h : n ≤ xs.length) : cutV xs (some (n : Int)) Option.none = xs.drop n := by
  unfold cutV
  rw [show HT.sIx xs.length xs.length none = xs.length from HT.sIx_none _ _, HT.sIx_nat, Nat.min_eq_left h]
  exact List.take_of_length_le (by rw [List.length_drop]; omega)
theorem anyS {H : Hp} {v : V} (h : PgN H v) : AnyPg H v := h.any.1
theorem ok_spoil (F : Fun K "_law_spoiled" "_law_spoiled" sSpoil f fd) (T : FT K mg C CN CP CS fW fB) : FnOk P wd K mg base CX0 1 f fd ["image", "kind", "block"] (spSpoil K) := by
  refine F.ok scSpoil (fun vs H Q E h => ?_) (fun cdv A outer s H vs Q E hr h => ?_)
  · obtain ⟨im, ws, ps, kd, bk, rfl, _⟩ := h
    rfl
  · obtain ⟨im, ws, ps, kd, bk, rfl, him, h8, h24, hlw, hw0, hpg, hkd, hbk, k⟩ := h
    refine ⟨_, pss_cons (ps_asg (pe_ix ix_list (pv 0) (pv 2) (fun _ _ => rfl)) (pg_tup (by rfl) (pgs_cons (pg_name (i := 3) scSpoil.nd rfl (Or.inl rfl)) (pgs_cons (pg_name (i := 4) scSpoil.nd rfl (Or.inl rfl)) L2.pgs_nil))))
      (pss_cons (ps_if (pt_cmpR op_eq (pv 1) pe_int (nomark _)) (pss_one (ps_ret (pe_slice sl_list (pv 0) po_none (po_some pe_int)))) pss_nil)
      (pss_cons (ps_if (pt_cmpR op_eq (pv 1) pe_int (nomark _)) (pss_one (ps_ret (pe_op op_cat (pv 0) (pe_lc (own := [("k", 6)]) (g := gName 6) (tt := tYes) (te := tTup (tCons (tC (.int 0)) (tCons tRow8 tNil))) (by rfl) scSpoil.nd
          (pi_range1 (by rfl) T.bt.range (pa_cons (pe_op op_sub pe_int (pe_callB call_len_seq (by rfl) T.bt.len PySem.boot_len (pa_cons (pv 0) pa_nil))) pa_nil)) (blkOk_by (own := [("k", 6)]) (N := ["image", "kind", "block", "wear", "pages", "row", "k"]) (sc := defScope sSpoil) (by decide +kernel))
          (fun _ _ _ _ _ => pg_name (i := 6) scSpoil.nd rfl (Or.inl rfl)) (fun _ _ _ _ _ => pts_nil) (fun _ _ _ _ _ => by exact (pe_tup (pa_cons pe_int (pa_cons (pe_op op_rep (pe_lst (pa_cons pe_non pa_nil)) pe_int) pa_nil)))))))) pss_nil)
      (pss_cons (ps_if (pt_cmpR op_eq (pv 1) pe_int (nomark _)) (pss_one (ps_ret (pe_callTy call_tuple_of (by rfl) T.tup boot_tuple (pa_cons (pv 0) pa_nil)))) pss_nil)
      (Evl.pss_cut (ps_if (pt_cmpR op_eq (pv 1) pe_int (nomark _)) (pss_one (ps_set (i := 5) scSpoil.nd rfl (Or.inl rfl) (pe_tup (pa_cons (pv 3) (pa_cons (pe_slice sl_list (pv 4) po_none (po_some pe_int)) pa_nil)))))
        (pss_one (ps_if (pt_cmpR op_eq (pv 1) pe_int (nomark _)) (pss_one (ps_set (i := 5) scSpoil.nd rfl (Or.inl rfl) (pe_tup (pa_cons (pv 3) (pa_cons (pe_op op_cat (pv 4) (pe_lst (pa_cons pe_non pa_nil))) pa_nil)))))
        (pss_one (ps_if (pt_cmpR op_eq (pv 1) pe_int (nomark _)) (pss_one (ps_set (i := 5) scSpoil.nd rfl (Or.inl rfl) (pe_tup (pa_cons (pe_un un_neg pe_int) (pa_cons (pv 4) pa_nil)))))
        (pss_one (ps_if (pt_cmpR op_eq (pv 1) pe_int (nomark _)) (pss_one (ps_set (i := 5) scSpoil.nd rfl (Or.inl rfl) (pe_tup (pa_cons pe_bl (pa_cons (pv 4) pa_nil)))))
        (pss_one (ps_if (pt_cmpR op_eq (pv 1) pe_int (nomark _)) (pss_one (ps_set (i := 5) scSpoil.nd rfl (Or.inl rfl) (pe_tup (pa_cons (pv 3) (pa_cons (pe_op op_cat (pe_lst (pa_cons pe_str pa_nil)) (pe_slice sl_list (pv 4) (po_some pe_int) po_none)) pa_nil)))))
        (pss_one (ps_if (pt_cmpR op_eq (pv 1) pe_int (nomark _)) (pss_one (ps_set (i := 5) scSpoil.nd rfl (Or.inl rfl) (pe_tup (pa_cons (pv 3) (pa_cons (pe_op op_cat (pe_op op_cat (pe_lst (pa_cons pe_non pa_nil)) (pe_lst (pa_cons (pe_tup (pa_cons pe_int pa_nil)) pa_nil))) (pe_slice sl_list (pv 4) (po_some pe_int) po_none)) pa_nil)))))
          (pss_one (ps_set (i := 5) scSpoil.nd rfl (Or.inl rfl) (pe_lst (pa_cons (pv 3) (pa_cons (pv 4) pa_nil))))))))))))))))
      (pss_one (ps_ret (pe_op op_cat (pe_op op_cat (pe_slice sl_list (pv 0) po_none (po_some (pv 2))) (pe_lst (pa_cons (pv 5) pa_nil))) (pe_slice sl_list (pv 0) (po_some (pe_op op_add (pv 2) pe_int)) po_none)))))))), ?_⟩
    obtain ⟨tr, hl, htl, htr⟩ := id him
    have hbt : bk < tr.length := by omega
    obtain ⟨wv, pl, xs, a1, a2, a3, a4⟩ := htr bk tr[bk] (List.getElem?_eq_getElem hbt)
    have hxs := hpg xs (List.mem_of_getElem? a2)
    have hwv := hw0 wv (List.mem_of_getElem? a1)
    have h8r := row_len hxs.1
    refine ⟨_, rfl, _, rfl, im, _, _, _, rfl, rfl, SqL.of hl, atI_nat (get_map (List.getElem?_eq_getElem hbt)), tr[bk], _, rfl, SqT.of a3, rfl, _, _, rfl, _, _, rfl, rfl, ?_⟩
    -- kind 0
    refine ⟨_, rfl, rfl, _, rfl, ?_⟩
    refine ite2 (fun hc => ?_) (fun hc0 => ?_)
    · refine ⟨_, rfl, 7, rfl, im, _, rfl, SqL.of hl, fun q hq => k _ _ (.inr ⟨q, _, rfl, upd_same, ?_, .inl ?_⟩) (same_new hq)⟩
      · rw [show cutV (tr.map V.ref) none (some 7) = (tr.map V.ref).take 7 from cut_take (n := 7) (by rw [List.length_map]; omega), List.length_take]; omega
      · rw [show cutV (tr.map V.ref) none (some 7) = (tr.map V.ref).take 7 from cut_take (n := 7) (by rw [List.length_map]; omega), List.length_take, List.length_map]; omega
    -- kind 1
    refine ⟨_, rfl, rfl, _, rfl, ?_⟩
    refine ite2 (fun hc => ?_) (fun hc1 => ?_)
    · refine ⟨_, rfl, _, rfl, im, _, rfl, .inl (SqL.of hl), _, _, rfl, rfl, _, rfl, ?_, ?_, fun D hD => ?_⟩
      · rw [List.length_map, htl]; omega
      · rw [List.length_map, htl]; omega
      refine lc_range (lo := 0) (fun i H' => i ≤ 25 - ps.length ∧ Same H H' ∧ ∃ ys : List V, H' D = some (.lst ys) ∧ ys.length = i) ⟨Nat.zero_le _, same_new hD, [], upd_same, rfl⟩ ?_ ?_
      · rintro i H' hi ⟨_, sm, ys, hDl, hyl⟩
        have hi' : i < 25 - ps.length := by rw [List.length_map, htl] at hi; omega
        refine ⟨rfl, yesIte ?_⟩
        refine ⟨by show 1 ≤ sizeLine; decide, fun l1 hl1 => ⟨l1, 8, [.non], rfl, rfl, upd_same, by decide, by decide, by show 8 ≤ sizeLine; decide, fun q hq => ⟨by show 2 ≤ sizeLine; decide, fun t ht => ?_⟩⟩⟩
        have s2 := (same_new hl1).trans ((same_new hq).trans (same_new (o := .tup [.int 0, .ref q]) ht))
        refine ⟨_, s2 _ _ hDl, by rw [hyl]; exact small1000 (by omega), by omega, fun x o hx => ?_, _, upd_same, by rw [List.length_append, hyl]; rfl⟩
        rw [upd_ne (ne_of_none hx hD)]
        exact s2 _ _ (sm _ _ hx)
      · rintro H' ⟨_, sm, ys, hDl, hyl⟩
        rw [List.length_map, htl] at hyl
        refine ⟨im, D, _, _, rfl, rfl, sm _ _ hl, hDl, ?_, fun q hq => k _ _ (.inr ⟨q, _, rfl, upd_same, ?_, .inl ?_⟩) (sm.trans (same_new hq))⟩
        · rw [List.length_map]; exact Nat.le_of_lt (small1000 (by omega))
        · rw [List.length_append, List.length_map]; omega
        · rw [List.length_append, List.length_map]; omega
    -- kind 9
    refine ⟨_, rfl, rfl, _, rfl, ?_⟩
    refine ite2 (fun hc => ?_) (fun hc9 => ?_)
    · exact ⟨_, rfl, im, _, rfl, .inl ⟨SqL.of hl, fun q hq => k _ _ (.inl ⟨_, .base (.tup upd_same), kit_ty (by decide +kernel)⟩) (same_new hq)⟩⟩
    -- the others
    refine ⟨fun σ' H' => ∃ t, σ' = [some (.ref im), some (.int (kd : Int)), some (.int (bk : Int)), some (.int wv), some (.ref pl), some (.ref t), none] ∧ IsB H' (.ref t) false ∧ Same H H', ?_, ?_⟩
    · refine ⟨_, rfl, rfl, _, rfl, ?_⟩
      refine ite2 (fun _ => ?_) (fun _ => ?_)
      · refine ⟨_, rfl, _, rfl, 7, rfl, pl, _, rfl, SqL.of a4, fun q hq => ⟨by show 2 ≤ sizeLine; decide, fun t ht => ?_⟩⟩
        have s1 := (same_new (o := .lst (cutV (row xs) none (some 7))) hq).trans (same_new (o := .tup [.int wv, .ref q]) ht)
        have ec : cutV (row xs) none (some 7) = (row xs).take 7 := cut_take (n := 7) (by omega)
        have eq' := same_new (o := .tup [.int wv, .ref q]) ht _ _ (upd_same (H := H) (a := q) (o := .lst (cutV (row xs) none (some 7))))
        rw [ec] at eq' s1 ⊢
        refine ⟨t, rfl, .inr ⟨t, .int wv, q, _, rfl, upd_same, .inl ⟨wv, rfl⟩, eq', by rw [List.length_take]; omega, fun v hv => (row_all hxs v (List.mem_of_mem_take hv)).1.same s1, ?_⟩, s1⟩
        unfold blkB
        rw [decide_eq_false (show ¬ ((row xs).take 7).length = 8 by rw [List.length_take]; omega), Bool.false_and, Bool.and_false]
      refine ⟨_, rfl, rfl, _, rfl, ?_⟩
      refine ite2 (fun _ => ?_) (fun _ => ?_)
      · refine ⟨_, rfl, _, rfl, by show 1 ≤ sizeLine; decide, fun l1 hl1 => ⟨pl, l1, _, _, rfl, rfl, same_new hl1 _ _ a4, upd_same, ?_, fun q hq => ⟨by show 2 ≤ sizeLine; decide, fun t ht => ?_⟩⟩⟩
        · rw [h8r]; show 9 ≤ sizeLine; decide
        have s1 := (same_new (o := .lst [V.non]) hl1).trans ((same_new (o := .lst (row xs ++ [V.non])) hq).trans (same_new (o := .tup [.int wv, .ref q]) ht))
        refine ⟨t, rfl, .inr ⟨t, .int wv, q, _, rfl, upd_same, .inl ⟨wv, rfl⟩, same_new ht _ _ upd_same, ?_, fun v hv => ?_, ?_⟩, s1⟩
        · rw [List.length_append, h8r]; simp only [List.length_cons, List.length_nil]; omega
        · rcases List.mem_append.mp hv with h | h
          · exact (row_all hxs v h).1.same s1
          · rw [List.mem_singleton.mp h]; exact .inl rfl
        · unfold blkB
          rw [decide_eq_false (show ¬ (row xs ++ [V.non]).length = 8 by rw [List.length_append, h8r]; simp), Bool.false_and, Bool.and_false]
      refine ⟨_, rfl, rfl, _, rfl, ?_⟩
      refine ite2 (fun _ => ?_) (fun _ => ?_)
      · refine ⟨_, rfl, _, rfl, by show 2 ≤ sizeLine; decide, fun t ht => ?_⟩
        have s1 := same_new (o := .tup [.int (-1), .ref pl]) ht
        exact ⟨t, rfl, .inr ⟨t, .int (-1), pl, _, rfl, upd_same, .inl ⟨_, rfl⟩, s1 _ _ a4, by omega, fun v hv => (row_all hxs v hv).1.same s1, rfl⟩, s1⟩
      refine ⟨_, rfl, rfl, _, rfl, ?_⟩
      refine ite2 (fun _ => ?_) (fun _ => ?_)
      · refine ⟨_, rfl, by show 2 ≤ sizeLine; decide, fun t ht => ?_⟩
        have s1 := same_new (o := .tup [.bl true, .ref pl]) ht
        exact ⟨t, rfl, .inr ⟨t, .bl true, pl, _, rfl, upd_same, .inr ⟨_, rfl⟩, s1 _ _ a4, by omega, fun v hv => (row_all hxs v hv).1.same s1, rfl⟩, s1⟩
      have ed1 : cutV (row xs) (some 1) none = (row xs).drop 1 := cut_drop (n := 1) (by omega)
      have ed2 : cutV (row xs) (some 2) none = (row xs).drop 2 := cut_drop (n := 2) (by omega)
      refine ⟨_, rfl, rfl, _, rfl, ?_⟩
      refine ite2 (fun _ => ?_) (fun _ => ?_)
      · refine ⟨_, rfl, by show 1 ≤ sizeLine; decide, fun l1 hl1 => ⟨_, rfl, 1, rfl, pl, _, rfl, SqL.of (same_new hl1 _ _ a4), fun q hq => ⟨l1, q, _, _, rfl, rfl, same_new hq _ _ upd_same, upd_same, ?_, fun r hr' => ⟨by show 2 ≤ sizeLine; decide, fun t ht => ?_⟩⟩⟩⟩
        · rw [ed1, List.length_drop, h8r]; show 8 ≤ sizeLine; decide
        rw [ed1] at hr' ht ⊢
        have s1 := (same_new (o := .lst [V.str "other"]) hl1).trans ((same_new (o := .lst ((row xs).drop 1)) hq).trans ((same_new (o := .lst ([V.str "other"] ++ (row xs).drop 1)) hr').trans (same_new (o := .tup [.int wv, .ref r]) ht)))
        refine ⟨t, rfl, .inr ⟨t, .int wv, r, _, rfl, upd_same, .inl ⟨wv, rfl⟩, same_new ht _ _ upd_same, ?_, fun v hv => ?_, ?_⟩, s1⟩
        · rw [List.length_append, List.length_drop, h8r]; simp
        · rcases List.mem_append.mp hv with h | h
          · rw [List.mem_singleton.mp h]; exact .inr (.inl ⟨_, rfl, by decide +kernel⟩)
          · exact (row_all hxs v (List.mem_of_mem_drop h)).1.same s1
        · unfold blkB
          have : ([V.str "other"] ++ (row xs).drop 1).all pgB = false := by
            rw [List.all_append, List.all_cons, show pgB (.str "other") = false by decide +kernel, Bool.false_and, Bool.false_and]
          rw [this, Bool.false_and, Bool.and_false, Bool.and_false]
      refine ⟨_, rfl, rfl, _, rfl, ?_⟩
      refine ite2 (fun _ => ?_) (fun _ => ?_)
      · refine ⟨_, rfl, by show 1 ≤ sizeLine; decide, fun l1 hl1 => ⟨by show 1 ≤ sizeLine; decide, fun t1 ht1 => ⟨by show 1 ≤ sizeLine; decide, fun l2 hl2 => ⟨l1, l2, _, _, rfl, rfl, same_new hl2 _ _ (same_new ht1 _ _ upd_same), upd_same, by show 2 ≤ sizeLine; decide, fun l3 hl3 => ?_⟩⟩⟩⟩
        have u1 := same_new (o := .lst [V.non]) hl1
        have u2 := same_new (o := .tup [V.int 1]) ht1
        have u3 := same_new (o := .lst [V.ref t1]) hl2
        have u4 := same_new (o := .lst ([V.non] ++ [V.ref t1])) hl3
        have s0 := u1.trans (u2.trans (u3.trans u4))
        refine ⟨_, rfl, 2, rfl, pl, _, rfl, SqL.of (s0 _ _ a4), fun q hq => ⟨l3, q, _, _, rfl, rfl, same_new hq _ _ upd_same, upd_same, ?_, fun r hr' => ⟨by show 2 ≤ sizeLine; decide, fun t ht => ?_⟩⟩⟩
        · rw [ed2, List.length_drop, h8r]; show 8 ≤ sizeLine; decide
        rw [ed2] at hr' ht ⊢
        have s1 := s0.trans ((same_new (o := .lst ((row xs).drop 2)) hq).trans ((same_new (o := .lst ([V.non] ++ [V.ref t1] ++ (row xs).drop 2)) hr').trans (same_new (o := .tup [.int wv, .ref r]) ht)))
        have et1 := same_new (o := .tup [.int wv, .ref r]) ht _ _ (same_new (o := .lst ([V.non] ++ [V.ref t1] ++ (row xs).drop 2)) hr' _ _ (same_new (o := .lst ((row xs).drop 2)) hq _ _ (u4 _ _ (u3 _ _ (upd_same (H := upd H l1 (.lst [V.non])) (a := t1) (o := .tup [V.int 1]))))))
        refine ⟨t, rfl, .inr ⟨t, .int wv, r, _, rfl, upd_same, .inl ⟨wv, rfl⟩, same_new ht _ _ upd_same, ?_, fun v hv => ?_, ?_⟩, s1⟩
        · rw [List.length_append, List.length_drop, h8r]; simp
        · rcases List.mem_append.mp hv with h | h
          · simp only [List.cons_append, List.nil_append, List.mem_cons, List.not_mem_nil, or_false] at h
            rcases h with rfl | rfl
            · exact .inl rfl
            · exact .inr (.inr ⟨t1, _, rfl, et1, rfl⟩)
          · exact (row_all hxs v (List.mem_of_mem_drop h)).1.same s1
        · unfold blkB
          have hc7 : ([V.non] ++ [V.ref t1] ++ (row xs).drop 2).countP isNon ≤ 7 := by
            have h6 := List.countP_le_length (p := isNon) (l := (row xs).drop 2)
            rw [List.length_drop, h8r] at h6
            show ([V.non, V.ref t1] ++ (row xs).drop 2).countP isNon ≤ 7
            rw [List.countP_append]
            have : ([V.non, V.ref t1] : List V).countP isNon = 1 := by
              rw [List.countP_cons, List.countP_cons, List.countP_nil]
              have e1 : isNon V.non = true := by decide
              have e2 : isNon (V.ref t1) = false := decide_eq_false (by intro z; cases z)
              rw [e1, e2]; rfl
            omega
          obtain ⟨n, hn⟩ : ∃ n, 8 - ([V.non] ++ [V.ref t1] ++ (row xs).drop 2).countP isNon = n + 1 := ⟨7 - ([V.non] ++ [V.ref t1] ++ (row xs).drop 2).countP isNon, by omega⟩
          rw [hn]
          have : (([V.non] ++ [V.ref t1] ++ (row xs).drop 2).take (n + 1)).any isNon = true := by
            show ((V.non :: ([V.ref t1] ++ (row xs).drop 2)).take (n + 1)).any isNon = true
            rw [List.take_succ_cons, List.any_cons, show isNon V.non = true by decide, Bool.true_or]
          rw [this, Bool.not_true, Bool.and_false, Bool.and_false, Bool.and_false]
      · refine ⟨_, rfl, _, rfl, by show 2 ≤ sizeLine; decide, fun t ht => ?_⟩
        exact ⟨t, rfl, .inl ⟨t, _, rfl, upd_same, rfl⟩, same_new ht⟩
    · rintro σ' H' ⟨t, rfl, hib, sm⟩
      have hl' := sm _ _ hl
      refine ⟨_, rfl, _, rfl, _, rfl, im, _, rfl, SqL.of hl', fun l1 h1 => ?_⟩
      have ec : cutV (tr.map V.ref) none (some (bk : Int)) = (tr.map V.ref).take bk := cut_take (by rw [List.length_map]; omega)
      rw [ec]
      refine ⟨_, rfl, by show 1 ≤ sizeLine; decide, fun l2 h2 => ⟨l1, l2, _, _, rfl, rfl, same_new h2 _ _ upd_same, upd_same, ?_, fun l3 h3 => ?_⟩⟩
      · rw [List.length_take]; exact Nat.le_of_lt (small1000 (by simp only [List.length_cons, List.length_nil]; omega))
      have u1 := same_new (o := .lst ((tr.map V.ref).take bk)) h1
      have u2 := same_new (o := .lst [V.ref t]) h2
      have u3 := same_new (o := .lst ((tr.map V.ref).take bk ++ [V.ref t])) h3
      have s3 := u1.trans (u2.trans u3)
      refine ⟨_, rfl, _, rfl, _, _, rfl, rfl, _, rfl, im, _, rfl, SqL.of (s3 _ _ hl'), fun l4 h4 => ?_⟩
      have ed : cutV (tr.map V.ref) (some ((bk : Int) + 1)) none = (tr.map V.ref).drop (bk + 1) := by
        exact cut_drop (n := bk + 1) (by rw [List.length_map]; omega)
      rw [ed]
      refine ⟨l3, l4, _, _, rfl, rfl, same_new h4 _ _ upd_same, upd_same, ?_, fun l5 h5 => ?_⟩
      · rw [List.length_append, List.length_take, List.length_drop, List.length_map]; exact Nat.le_of_lt (small1000 (by simp only [List.length_cons, List.length_nil]; omega))
      have u4 := same_new (o := .lst ((tr.map V.ref).drop (bk + 1))) h4
      have u5 := same_new (o := .lst (((tr.map V.ref).take bk ++ [V.ref t]) ++ (tr.map V.ref).drop (bk + 1))) h5
      have s5 := s3.trans (u4.trans u5)
      have s6 := sm.trans s5
      have es : ((tr.map V.ref).take bk ++ [V.ref t]) ++ (tr.map V.ref).drop (bk + 1) = (tr.map V.ref).set bk (.ref t) := by
        rw [List.set_eq_take_append_cons_drop, if_pos (by rw [List.length_map]; omega), List.append_assoc]; rfl
      refine k _ _ (bad_set (by rw [← es]; exact upd_same) htl h24 hbk (fun i t' hi => ?_) hw0 (hpg.mono (same_tups s6)) (hib.same s5)) s6
      obtain ⟨wv, c, vs, b1, b2, b3, b4⟩ := htr i t' hi
      exact ⟨wv, c, vs, b1, b2, s6 _ _ b3, s6 _ _ b4⟩
end
end Sg

set_option Elab.async false
set_option linter.all false
set_option maxRecDepth 100000
set_option maxHeartbeats 4000000
namespace Sg
open PySem PySem.Spec PyProof.Rows L2
/-- C(e, ..) in a try's body: what is raised is wished for at the slots as they stand -/
def tMakeT (C : Addr) (sp : Sp) (E : L2.St → XK) (t : TA) : TE := fun σ H Q => t σ H fun vs H1 => ∀ x dx, H1 x = Option.none → H1 dx = Option.none → dx ≠ x →
  sp (.ref x :: vs) (upd (upd H1 dx (.own x)) x (.ins C dx [])) (fun v H2 => v = .non ∧ Q (.ref x) H2) (E σ)
theorem run_makeT {X : Cx} {CX : CXT} {k : Nat} {f C : Addr} {fd : FuncData} {ps : List Str} {sp : Sp} {E : XK} {pins : List (Addr × Obj)} {σ : L2.St} {H : Hp} {s : Shared} {Q : VK} {us : List Value} {vs : List V} (M : Mk X.K C f) (F : FnOk X.prog X.w X.K X.mg X.base CX k f fd ps sp) (hr : Room (k + 1) X.A) (hb : Binds X.K fd ps [])
    (hx : PassesAt CX X σ E) (I : Inv X pins σ H s) (r : Vals vs us)
    (h : ∀ x dx, H x = Option.none → H dx = Option.none → dx ≠ x → sp (.ref x :: vs) (upd (upd H dx (.own x)) x (.ins C dx [])) (fun v H2 => v = .non ∧ Q (.ref x) H2) E) :
    wpAny (model X.prog X.w) X.A (call (.ref C) us) (EP X pins σ Q) X.xe s := by
  have hq := h (s.heap.objs.size + 1) s.heap.objs.size (I.hok.fresh (Nat.le_succ _)) (I.hok.fresh (Nat.le_refl _)) (Nat.ne_of_lt (Nat.lt_succ_self _))
  have I2 := Inv.made (C := C) I
  have r2 : Vals (V.ref (s.heap.objs.size + 1) :: vs) (Value.ref (s.heap.objs.size + 1) :: us) := .cons rfl r
  have hl : (Value.ref (s.heap.objs.size + 1) :: us ++ []).length = ps.length := by
    have e := r2.length
    rw [F.len _ _ _ _ hq] at e
    rw [List.append_nil]
    exact e.symm
  have b := hb _ (Value.ref (s.heap.objs.size + 1) :: us) I2.kIn hl
  rw [List.append_nil] at b
  refine wpAny_call (make_map (f := f) I.kIn M.makes M.init (beq_iff_eq.mp M.fn) (codeAny_mono (F.run _ X.stack _ _ ⟨Value.ref (s.heap.objs.size + 1) :: us, []⟩ (Value.ref (s.heap.objs.size + 1) :: us) _ _ E (hr.make C us [])
    (I2.env0.make C us []) b r2 hq) fun r s' hq' => ?_))
  cases r with
  | error e => exact hx pins _ _ e s' I2 hq'
  | ok fl =>
    cases fl with
    | ret u =>
      obtain ⟨v, H', I3, rv, ev, q3⟩ := I2.after hq'
      subst ev
      exact ⟨rv, ⟨V.ref (s.heap.objs.size + 1), H', I3, rfl, q3⟩⟩
    | next => exact False.elim hq'
    | brk => exact False.elim hq'
    | cont => exact False.elim hq'
theorem pe_makeT {X : Cx} {CX : CXT} {k : Nat} {f C : Addr} {fd : FuncData} {ps : List Str} {sp : Sp} {E : L2.St → XK} {x : Str} {p pos : Pos} {e : Expr} {es : List Expr} {t : TA} (M : Mk X.K C f) (F : FnOk X.prog X.w X.K X.mg X.base CX k f fd ps sp) (hr : Room (k + 1) X.A) (hg : Gl X x) (hm : X.mg x = some (.ref C)) (hb : Binds X.K fd ps []) (hx : ∀ σ, PassesAt CX X σ (E σ))
    (ha : PA X (e :: es) t) (hdb : (x == ("__debug__" : Str)) = false := by decide) (he : starEach (e :: es) X.env = (false, eval e X.env) :: starEach es X.env := by rfl) (hpl : (backTo pos (starEach es X.env)).any (·.1) = false := by rfl) :
    PE X (.Call (.Name x p) (e :: es) [] pos) (tMakeT C sp E t) := by
  refine ⟨fun pins s σ H Q I h => ?_⟩
  refine wpAny_Call_Name_kw (ld_glob I hg hm ?_ hdb)
  refine PySem.W.callWith_K (h₀ := X.base) I.ok.mod.kin M.kp (thn (ha.run pos pins s σ H _ I h) fun us s1 ⟨vs, H1, I1, r, q⟩ => ⟨I1.kIn, ?_⟩) he hpl
  exact run_makeT M F hr hb (hx σ) I1 r q
theorem kit_self {K : PySem.W.Frag} {C : Addr} : PySem.W.kitOne K (.ref C) (.ref C) = some true := by
  unfold PySem.W.kitOne
  rw [if_pos (by simp)]
/-- what is refused: a new list [True] -/
def Refu (H : Hp) (Q : VK) : Prop := ∀ H' l, Same H H' → H' l = Option.none → Q (.ref l) (upd H' l (.lst [.bl true]))
def spTold (K : PySem.W.Frag) (C : Addr) : Sp := fun vs H Q _ => ∃ im, vs = [im] ∧ ((BadIm K H im ∧ Refu H Q) ∨
  (∃ l ws ps, im = .ref l ∧ ImgAt H l ws ps ∧ 8 ≤ ps.length ∧ ps.length ≤ 24 ∧ ws.length = ps.length ∧ (∀ w ∈ ws, 0 ≤ w) ∧ Pgs H ps ∧
    ∀ p w c as H', FlashAt C H' p w c as ws ps true .non .non → H p = Option.none → H w = Option.none → H c = Option.none → (∀ a ∈ as, H a = Option.none) → Same H H' → Q (.ref p) H'))
def spToldSize : Sp := fun vs H Q _ => ∃ n : Int, vs = [.int n] ∧ ((¬ (8 ≤ n ∧ n ≤ 24) ∧ Refu H Q) ∨ (8 ≤ n ∧ n ≤ 24 ∧ ∀ H', Same H H' → Q (.int n) H'))
section
variable {P : Program} {wd : World} {K : PySem.W.Frag} {mg : Str → Option Value} {base : Heap} {f C CN CP CS fW fB fk fI : Addr} {fd fdB fdW fdk fdI : FuncData}
theorem scTold : FnScope ["image", "e"] ["image"] (defScope sTold) := ⟨rfl, rfl, rfl, by decide +kernel, rfl, by decide +kernel, by decide +kernel⟩
theorem scToldSize : FnScope ["blocks", "e"] ["blocks"] (defScope sToldSize) := ⟨rfl, rfl, rfl, by decide +kernel, rfl, by decide +kernel, by decide +kernel⟩
abbrev tSuite (K : PySem.W.Frag) (CN : Addr) (a : Addr) (cls : Value) (d : Option Addr) : TS := tRet (tLst (tCons (tCB (rIsX K a cls d) (tCons (tVar 1) (tCons (tC (.ref CN)) tNil))) tNil))
theorem ok_told (F : Fun K "_law_told" "_law_told" sTold f fd) (T : FT K mg C CN CP CS fW fB) (XC : ExcC K CN)
    (GF : FnOk P wd K mg base (L2.CX P wd) 5 fk fdk ["image"] (spFrom K C CN)) (bF : Binds K fdk ["image"] []) (kF : PySem.W.keepIn K (.ref fk) = true) (mF : mg "flash_from" = some (.ref fk)) :
    FnOk P wd K mg base CX0 6 f fd ["image"] (spTold K C) := by
  refine F.ok scTold (fun vs H Q E h => ?_) (fun cdv A outer s H vs Q E hr h => ?_)
  · obtain ⟨im, rfl, _⟩ := h
    rfl
  · obtain ⟨im, rfl, h⟩ := h
    refine ⟨_, pss_one (ps_try_as (i := 1) (Wout := fun _ _ _ _ => False)
      (tb := fun W => tRet (tCallS (spFrom K C CN) (WE W) (tCons (tVar 0) tNil)))
      (ts := tSuite K CN) rfl rfl scTold.nd rfl rfl ⟨rfl, by decide, Or.inl T.gS⟩ takes0
      (fun W pn xe tk _ => pss_one (ps_ret (by exact (pe_callS GF hr (by rfl) mF kF bF (fun σ => passAt tk σ) (by exact (pa_cons (pv 0) pa_nil))))))
      (fun a oe cls d pn hz hf => pss_one (ps_ret (pe_lst (pa_cons (pe_callB (call_isX hz hf) (by rfl) T.bd.isi boot_isi (pa_cons (pv 1) (pa_cons (pe_glob (v := .ref CN) (by rfl) T.gN rfl) pa_nil))) pa_nil))))), ?_⟩
    refine ⟨_, rfl, im, rfl, ?_⟩
    rcases h with ⟨hb, k⟩ | ⟨l, ws, ps, rfl, h1, h2, h3, h4, h5, h6, k⟩
    · refine .inl ⟨hb, fun H' sm => ⟨true, T.eN, fun _ a ha => ?_, fun z => Bool.noConfusion z⟩⟩
      exact ⟨_, rfl, CN, _, .ref CN, true, rfl, rfl, XC, rfl, fun u hu => hu, kit_self, by show 1 ≤ sizeLine; decide, fun l hl => k H' l sm hl⟩
    · exact .inr ⟨l, ws, ps, rfl, h1, h2, h3, h4, h5, h6, k⟩
theorem ok_told_size (F : Fun K "_law_told_size" "_law_told_size" sToldSize f fd) (T : FT K mg C CN CP CS fW fB) (XC : ExcC K CN) (M : Mk K C fI) (GI : FnOk P wd K mg base (L2.CX P wd) 3 fI fdI ["self", "blocks"] (spInit C CN)) (bI : Binds K fdI ["self", "blocks"] []) :
    FnOk P wd K mg base CX0 5 f fd ["blocks"] spToldSize := by
  refine F.ok scToldSize (fun vs H Q E h => ?_) (fun cdv A outer s H vs Q E hr h => ?_)
  · obtain ⟨n, rfl, _⟩ := h
    rfl
  · obtain ⟨n, rfl, h⟩ := h
    refine ⟨_, pss_one (ps_try_as (i := 1) (Wout := fun _ _ _ _ => False)
      (tb := fun W => tRet (tFld K (tMakeT C (spInit C CN) (WE W) (tCons (tVar 0) tNil)) "blocks"))
      (ts := tSuite K CN) rfl rfl scToldSize.nd rfl rfl ⟨rfl, by decide, Or.inl T.gS⟩ takes0
      (fun W pn xe tk _ => pss_one (ps_ret (by exact (pe_fld (pe_makeT M GI hr (by rfl) T.gC bI (fun σ => passAt tk σ) (by exact (pa_cons (pv 0) pa_nil))) rfl))))
      (fun a oe cls d pn hz hf => pss_one (ps_ret (pe_lst (pa_cons (pe_callB (call_isX hz hf) (by rfl) T.bd.isi boot_isi (pa_cons (pv 1) (pa_cons (pe_glob (v := .ref CN) (by rfl) T.gN rfl) pa_nil))) pa_nil))))), ?_⟩
    refine ⟨_, rfl, fun p dx hp hdx hne => ?_⟩
    have s0 : Same H (upd (upd H dx (.own p)) p (.ins C dx [])) := fun x o hx => by
      rw [upd_ne (ne_of_none hx hp), upd_ne (ne_of_none hx hdx)]; exact hx
    refine ⟨p, dx, n, rfl, upd_same, fun m hm h8 h24 w c as H2 FA hw hc has off tup => ⟨rfl, ?_⟩, fun hn => ?_⟩
    · rcases h with ⟨hb, _⟩ | ⟨_, _, k⟩
      · exact absurd ⟨by omega, by omega⟩ hb
      · obtain ⟨dx2, ob2⟩ := FA.ob
        refine ⟨p, C, dx2, _, _, rfl, ob2, T.cl, T.n1, ff_blocks, ?_⟩
        rw [List.length_replicate, ← hm]
        exact k H2 fun x o hx => off _ _ (s0 _ _ hx) (by simpa using ne_of_none hx hp)
    · rcases h with ⟨_, k⟩ | ⟨h1, h2, _⟩
      · refine ⟨true, T.eN, fun _ a ha => ?_, fun z => Bool.noConfusion z⟩
        exact ⟨_, rfl, CN, _, .ref CN, true, rfl, rfl, XC, rfl, fun u hu => hu, kit_self, by show 1 ≤ sizeLine; decide, fun l hl => k _ l s0 hl⟩
      · exact absurd ⟨h1, h2⟩ hn
end
end Sg

set_option Elab.async false
set_option linter.all false
set_option maxRecDepth 100000
set_option maxHeartbeats 8000000
namespace Sg
open PySem PySem.Spec PyProof.Rows L2
def spLaw (K : PySem.W.Frag) : Sp := fun vs H Q _ => ∃ (a : Addr) (ns : List Int), vs = [.ref a] ∧ SqL K H a (ns.map V.int) ∧ ns.length ≤ 63 ∧ ∀ H', Q (.bl true) H'
/-- an image whose lists are none of these -/
def ImgX (xs : List Addr) (H : Hp) (r : Addr) (ws : List Int) (ps : List (List V)) : Prop := r ∉ xs ∧ ∃ tr : List Addr, H r = some (.lst (tr.map V.ref)) ∧ tr.length = ps.length ∧
  ∀ (i : Nat) (t : Addr), tr[i]? = some t → ∃ (wv : Int) (c : Addr) (vs : List V), ws[i]? = some wv ∧ ps[i]? = some vs ∧ H t = some (.tup [.int wv, .ref c]) ∧ H c = some (.lst (row vs)) ∧ c ∉ xs ∧ c ≠ r
theorem ImgX.img {xs : List Addr} {H : Hp} {r : Addr} {ws : List Int} {ps : List (List V)} (h : ImgX xs H r ws ps) : ImgAt H r ws ps := by
  obtain ⟨_, tr, h1, h2, h3⟩ := h
  refine ⟨tr, h1, h2, fun i t ht => ?_⟩
  obtain ⟨wv, c, vs, a, b, d, e, _⟩ := h3 i t ht
  exact ⟨wv, c, vs, a, b, d, e⟩
theorem ImgX.off {xs ys : List Addr} {H H' : Hp} {r : Addr} {ws : List Int} {ps : List (List V)} (h : ImgX xs H r ws ps) (o : Off ys H H') (t : Tups H H') (hy : ∀ y ∈ ys, y ∈ xs) : ImgX xs H' r ws ps := by
  obtain ⟨h0, tr, h1, h2, h3⟩ := h
  refine ⟨h0, tr, o _ _ h1 (fun z => h0 (hy _ z)), h2, fun i u hu => ?_⟩
  obtain ⟨wv, c, vs, a, b, d, e, f, g⟩ := h3 i u hu
  exact ⟨wv, c, vs, a, b, t _ _ d, o _ _ e (fun z => f (hy _ z)), f, g⟩
theorem ImgX.same {xs : List Addr} {H H' : Hp} {r : Addr} {ws : List Int} {ps : List (List V)} (h : ImgX xs H r ws ps) (s : Same H H') : ImgX xs H' r ws ps :=
  h.off (ys := []) (fun b o hb _ => s b o hb) (same_tups s) (fun _ h => by cases h)
/-- a def of the module's own, ready to be called -/
structure Def (P : Program) (wd : World) (K : PySem.W.Frag) (mg : Str → Option Value) (base : Heap) (CX : CXT) (x : Str) (k : Nat) (ps : List Str) (sp : Sp) (f : Addr) (fd : FuncData) : Prop where
  ok : FnOk P wd K mg base CX k f fd ps sp
  bd : Binds K fd ps []
  kp : PySem.W.keepIn K (.ref f) = true
  mg : mg x = some (.ref f)
/-- what is known of an instance's type -/
structure InsT (K : PySem.W.Frag) (C : Addr) : Prop where
  ha : PySem.W.findIn K (.ref C) "__class__" = some (some (.builtin "object.__class__"))
  hn : PySem.W.specialIn K (.builtin "object.__class__") "__get__" = some (some (.builtin "getset_descriptor.__get__"))
  ht : PySem.W.takesIn K (.builtin "object.__class__") = some true
  hm : PySem.W.mroIn K C (.type "object") = some true
  kl : PySem.W.kitOne K (.ref C) (.type "list") = some false
abbrev LN : List Str := ["script", "tape", "blocks", "image", "block", "number", "kept", "flash", "page", "row"]
/-- the image that the law lays -/
structure LI (H : Hp) (tp im : Addr) (ts : List Int) (tr : List Addr) (ws : List Int) (ps : List (List V)) : Prop where
  tape : H tp = some (.lst (ts.map V.int))
  iml : H im = some (.lst (tr.map V.ref))
  lt : tr.length = ps.length
  lw : ws.length = ps.length
  nn : ∀ w ∈ ws, 0 ≤ w
  pg : Pgs H ps
  ne : im ≠ tp
  rows : ∀ (i : Nat) (t : Addr), tr[i]? = some t → ∃ (wv : Int) (c : Addr) (vs : List V), ws[i]? = some wv ∧ ps[i]? = some vs ∧ H t = some (.tup [.int wv, .ref c]) ∧ H c = some (.lst (row vs)) ∧ c ≠ im
theorem LI.same {H H' : Hp} {tp im : Addr} {ts : List Int} {tr : List Addr} {ws : List Int} {ps : List (List V)} (h : LI H tp im ts tr ws ps) (s : Same H H') : LI H' tp im ts tr ws ps := by
  refine ⟨s _ _ h.tape, s _ _ h.iml, h.lt, h.lw, h.nn, h.pg.mono (same_tups s), h.ne, fun i t ht => ?_⟩
  obtain ⟨wv, c, vs, a, b, d, e, f⟩ := h.rows i t ht
  exact ⟨wv, c, vs, a, b, s _ _ d, s _ _ e, f⟩
theorem LI.img {H : Hp} {tp im : Addr} {ts : List Int} {tr : List Addr} {ws : List Int} {ps : List (List V)} (h : LI H tp im ts tr ws ps) : ImgAt H im ws ps := by
  refine ⟨tr, h.iml, h.lt, fun i t ht => ?_⟩
  obtain ⟨wv, c, vs, a, b, d, e, _⟩ := h.rows i t ht
  exact ⟨wv, c, vs, a, b, d, e⟩
theorem LI.push {H H' : Hp} {tp im c t : Addr} {ts : List Int} {tr : List Addr} {ws : List Int} {ps : List (List V)} {wv : Int} {vs : List V} (h : LI H tp im ts tr ws ps) (hc : H c = Option.none) (s : Same H H') (ec : H' c = some (.lst (row vs))) (hv : PgsN H' vs) (ht : H' t = Option.none) (hw : 0 ≤ wv) :
    LI (upd (upd H' t (.tup [.int wv, .ref c])) im (.lst (tr.map V.ref ++ [.ref t]))) tp im ts (tr ++ [t]) (ws ++ [wv]) (ps ++ [vs]) := by
  have s1 := same_new (o := .tup [.int wv, .ref c]) ht
  have g := (h.same s).same s1
  have nt : t ≠ im := (ne_of_none (s _ _ h.iml) ht).symm
  have tps := Tups.lst (o := .lst (tr.map V.ref ++ [.ref t])) g.iml
  refine ⟨?_, ?_, ?_, ?_, ?_, ?_, g.ne, fun i u hu => ?_⟩
  · rw [upd_ne g.ne.symm]; exact g.tape
  · rw [upd_same, List.map_append]; rfl
  · rw [List.length_append, List.length_append, g.lt]; rfl
  · rw [List.length_append, List.length_append, g.lw]; rfl
  · intro w hw'
    rcases List.mem_append.mp hw' with e | e
    · exact h.nn w e
    · rw [List.mem_singleton.mp e]; exact hw
  · intro v hv'
    rcases List.mem_append.mp hv' with e | e
    · exact (g.pg v e).mono tps
    · rw [List.mem_singleton.mp e]; exact (hv.mono (same_tups s1)).mono tps
  · by_cases hi : i < tr.length
    · rw [List.getElem?_append_left hi] at hu
      obtain ⟨wv', c', vs', a, b, d, e, f⟩ := g.rows i u hu
      have hip : i < ps.length := by rw [← g.lt]; exact hi
      refine ⟨wv', c', vs', ?_, ?_, tps _ _ d, ?_, f⟩
      · rw [List.getElem?_append_left (by rw [g.lw]; exact hip)]; exact a
      · rw [List.getElem?_append_left hip]; exact b
      · rw [upd_ne f]; exact e
    · have hi' : i = tr.length := by
        have := (List.getElem?_eq_some_iff.mp hu).1
        rw [List.length_append] at this
        simp only [List.length_cons, List.length_nil] at this
        omega
      subst hi'
      rw [List.getElem?_append_right (Nat.le_refl _), Nat.sub_self] at hu
      have e : t = u := by simpa using hu
      subst e
      have nc : c ≠ im := (ne_of_none h.iml hc).symm
      refine ⟨wv, c, vs, ?_, ?_, tps _ _ upd_same, ?_, nc⟩
      · rw [List.getElem?_append_right (by rw [g.lw, g.lt]; exact Nat.le_refl _), g.lw, g.lt, Nat.sub_self]; rfl
      · rw [List.getElem?_append_right (by rw [g.lt]; exact Nat.le_refl _), g.lt, Nat.sub_self]; rfl
      · rw [upd_ne nc]; exact s1 _ _ ec
theorem img_set {H H' : Hp} {r t l : Addr} {tr : List Addr} {ws : List Int} {ps : List (List V)} {j : Nat} {wv : Int} {vs : List V} (ht : tr.length = ps.length) (hl : ws.length = ps.length)
    (h3 : ∀ (i : Nat) (t : Addr), tr[i]? = some t → ∃ (wv : Int) (c : Addr) (vs : List V), ws[i]? = some wv ∧ ps[i]? = some vs ∧ H t = some (.tup [.int wv, .ref c]) ∧ H c = some (.lst (row vs)) ∧ c ≠ r)
    (s : Same H H') (hr : ∃ xs, H' r = some (.lst xs)) (h1 : H' t = some (.tup [.int wv, .ref l])) (h2 : H' l = some (.lst (row vs))) (hn : l ≠ r) (hj : j < ps.length) :
    ImgAt (upd H' r (.lst ((tr.map V.ref).set j (.ref t)))) r (ws.set j wv) (ps.set j vs) := by
  obtain ⟨xs, hr⟩ := hr
  have tps := Tups.lst (o := .lst ((tr.map V.ref).set j (.ref t))) hr
  refine ⟨tr.set j t, ?_, ?_, fun i u hu => ?_⟩
  · rw [upd_same, List.map_set]
  · rw [List.length_set, List.length_set, ht]
  · rcases get_set_cases hu with ⟨rfl, rfl, _⟩ | ⟨hi, hu⟩
    · refine ⟨wv, l, vs, ?_, ?_, tps _ _ h1, ?_⟩
      · rw [List.getElem?_set_self (by omega)]
      · rw [List.getElem?_set_self (by omega)]
      · rw [upd_ne hn]; exact h2
    · obtain ⟨wv', c, vs', a, b, d, e, f⟩ := h3 i u hu
      refine ⟨wv', c, vs', ?_, ?_, tps _ _ (s _ _ d), ?_⟩
      · rw [List.getElem?_set_ne (Ne.symm hi)]; exact a
      · rw [List.getElem?_set_ne (Ne.symm hi)]; exact b
      · rw [upd_ne f]; exact s _ _ e
theorem FlashAt.off {C : Addr} {H H' : Hp} {p w c : Addr} {as : List Addr} {ws : List Int} {ps : List (List V)} {pw : Bool} {rm it : V} {xs : List Addr} (F : FlashAt C H p w c as ws ps pw rm it) (o : Off xs H H') (t : Tups H H') (d : ∀ x ∈ (p :: w :: c :: as), x ∉ xs) : FlashAt C H' p w c as ws ps pw rm it := by
  obtain ⟨dx, h⟩ := F.ob
  refine ⟨⟨dx, o _ _ h (d _ List.mem_cons_self)⟩, o _ _ F.wl (d _ (List.mem_cons_of_mem _ List.mem_cons_self)), ?_, F.lw, F.pg.mono t, F.nwc, F.nwa⟩
  exact F.gr.keep (fun ob hx => o _ _ hx (d _ (List.mem_cons_of_mem _ (List.mem_cons_of_mem _ List.mem_cons_self)))) fun a ha ob hx => o _ _ hx (d _ (List.mem_cons_of_mem _ (List.mem_cons_of_mem _ (List.mem_cons_of_mem _ ha))))
theorem dp_true {K : PySem.W.Frag} {H : Hp} {l : Addr} (h : H l = some (.lst [.bl true])) : Dp K H (.ref l) (.list [.bool true]) := .lst (SqL.of h) (.cons (.bl true) .nil)
theorem sh_true : SeqAt.shaped (.list [.bool true]) = true := by decide +kernel
theorem eq_true_ : PyData.eqv (.list [.bool true]) (.list [.bool true]) = true := SeqAt.eqv_refl _ (SeqAt.canLay_of_shaped sh_true)
theorem szs {x0 x1 x2 x3 x4 : Int} (h0 : ¬ (8 ≤ x0 ∧ x0 ≤ 24)) (h1 : ¬ (8 ≤ x1 ∧ x1 ≤ 24)) (h2 : ¬ (8 ≤ x2 ∧ x2 ≤ 24)) (h3 : ¬ (8 ≤ x3 ∧ x3 ≤ 24)) (h4 : ¬ (8 ≤ x4 ∧ x4 ≤ 24)) : ∀ j, j < 5 → ∃ x : Int, ([.int x0, .int x1, .int x2, .int x3, .int x4] : List V)[j]? = some (.int x) ∧ ¬ (8 ≤ x ∧ x ≤ 24)
  | 0, _ => ⟨_, rfl, h0⟩
  | 1, _ => ⟨_, rfl, h1⟩
  | 2, _ => ⟨_, rfl, h2⟩
  | 3, _ => ⟨_, rfl, h3⟩
  | 4, _ => ⟨_, rfl, h4⟩
  | n + 5, h => by omega
theorem nil_ {σ : L2.St} {H : Hp} {Q : List V → Hp → Prop} (h : Q [] H) : tNil σ H Q := h
section
variable {P : Program} {wd : World} {K : PySem.W.Frag} {mg : Str → Option Value} {base : Heap} {f C CN CP CS fW fB fT fA fG fP fL fZ f1 f2 f3 f4 : Addr} {fd fdT fdA fdG fdP fdL fdZ fd1 fd2 fd3 fd4 : FuncData}
theorem scLaw : FnScope LN ["script"] (defScope sLaw) := ⟨rfl, rfl, rfl, by decide +kernel, rfl, by decide +kernel, by decide +kernel⟩
theorem ok_law (F : Fun K "law" "law" sLaw f fd) (T : FT K mg C CN CP CS fW fB) (IT : InsT K C)
    (GT : Def P wd K mg base CX0 "_law_tape" 1 ["script"] (spTape K) fT fdT) (GA : Def P wd K mg base CX0 "_law_at" 1 ["tape", "k"] (spAt K) fA fdA)
    (GG : Def P wd K mg base CX0 "_law_pages" 1 ["number", "pick"] spPages fG fdG) (GP : Def P wd K mg base CX0 "_law_spoiled" 1 ["image", "kind", "block"] (spSpoil K) fP fdP)
    (GL : Def P wd K mg base CX0 "_law_told" 6 ["image"] (spTold K C) fL fdL) (GZ : Def P wd K mg base CX0 "_law_told_size" 5 ["blocks"] spToldSize fZ fdZ)
    (G1 : FnOk P wd K mg base CX0 1 f1 fd1 ["self"] (spImage C)) (b1 : Binds K fd1 ["self"] []) (m1 : Meth K C "image" f1)
    (G2 : FnOk P wd K mg base (L2.CX P wd) 4 f2 fd2 ["self", "block"] (spErase C CN CP)) (b2 : Binds K fd2 ["self", "block"] []) (m2 : Meth K C "erase" f2)
    (G3 : FnOk P wd K mg base (L2.CX P wd) 4 f3 fd3 ["self", "block"] (spWear C CN)) (b3 : Binds K fd3 ["self", "block"] []) (m3 : Meth K C "wear" f3)
    (G4 : FnOk P wd K mg base (L2.CX P wd) 5 f4 fd4 ["self", "block", "page"] (spRead C CN CP)) (b4 : Binds K fd4 ["self", "block", "page"] []) (m4 : Meth K C "read" f4) :
    FnOk P wd K mg base CX0 7 f fd ["script"] (spLaw K) := by
  refine F.ok scLaw (fun vs H Q E h => ?_) (fun cdv A outer s H vs Q E hr h => ?_)
  · obtain ⟨a, ns, rfl, _⟩ := h
    rfl
  · obtain ⟨a, ns, rfl, hS, hlen, k⟩ := h
    have hr1 : Room 1 _ := hr.mono (by decide)
    have hr4 : Room 4 _ := hr.mono (by decide)
    have hr5 : Room 5 _ := hr.mono (by decide)
    refine ⟨_, pss_cons (ps_set (i := 1) scLaw.nd rfl (Or.inl rfl) (pe_call GT.ok hr1 (by rfl) GT.mg GT.kp GT.bd .nil pass0 (pa_cons (pv 0) pa_nil)))
      (pss_cons (ps_set (i := 2) scLaw.nd rfl (Or.inl rfl) (pe_op op_add pe_int (pe_op op_mod (pe_call GA.ok hr1 (by rfl) GA.mg GA.kp GA.bd .nil pass0 (pa_cons (pv 1) (pa_cons pe_int pa_nil))) pe_int)))
      (pss_cons (ps_set (i := 3) scLaw.nd rfl (Or.inl rfl) (pe_lst pa_nil))
      (pss_cons (ps_for PassesOwn.never rfl (pi_range1 (by rfl) T.bt.range (pa_cons (pv 2) pa_nil)) (pg_name (i := 4) scLaw.nd rfl (Or.inl rfl))
          (pss_cons (ps_set (i := 5) scLaw.nd rfl (Or.inl rfl) (pe_call GA.ok hr1 (by rfl) GA.mg GA.kp GA.bd .nil pass0 (pa_cons (pv 1) (pa_cons (pe_op op_add pe_int (pv 4)) pa_nil))))
          (pss_one (ps_expr (pe_bm PySem.F.plainAttrs_list PySem.F.slot_list_append PySem.F.type_list_append mt_append (pv 3) (pa_cons (pe_tup (pa_cons (pe_op op_fdiv (pv 5) pe_int)
            (pa_cons (pe_call GG.ok hr1 (by rfl) GG.mg GG.kp GG.bd .nil pass0 (pa_cons (pv 5) (pa_cons (pe_call GA.ok hr1 (by rfl) GA.mg GA.kp GA.bd .nil pass0 (pa_cons (pv 1) (pa_cons (pe_op op_add pe_int (pv 4)) pa_nil))) pa_nil))) pa_nil))) pa_nil))))))
      (pss_cons (ps_if (PW.pt (pw_or (pt_cmpR op_ne (pe_call GZ.ok hr5 (by rfl) GZ.mg GZ.kp GZ.bd .nil pass0 (pa_cons (pv 2) pa_nil)) (pv 2) (nomark _)) (pw_or1 (pt_cmpR (op_neD hr.units) (pe_call GZ.ok hr5 (by rfl) GZ.mg GZ.kp GZ.bd .nil pass0
            (pa_cons (pe_ix ix_list (pe_lst (pa_cons pe_int (pa_cons pe_int (pa_cons pe_int (pa_cons (pe_un un_neg pe_int) (pa_cons (pe_op op_pow pe_int pe_int) pa_nil)))))) (pe_op op_mod (pe_call GA.ok hr1 (by rfl) GA.mg GA.kp GA.bd .nil pass0 (pa_cons (pv 1) (pa_cons pe_int pa_nil))) pe_int) (fun _ _ => rfl)) pa_nil))
            (pe_lst (pa_cons pe_bl pa_nil)) (nomark _)))))
          (pss_one (ps_ret pe_bl)) pss_nil)
      (pss_cons (ps_if (pt_cmpR op_eq (pe_op op_mod (pe_call GA.ok hr1 (by rfl) GA.mg GA.kp GA.bd .nil pass0 (pa_cons (pv 1) (pa_cons pe_int pa_nil))) pe_int) pe_int (nomark _))
          (pss_one (ps_ret (pe_cmpR (op_eqD hr.units) (pe_call GL.ok hr (by rfl) GL.mg GL.kp GL.bd .nil pass0 (pa_cons (pe_call GP.ok hr1 (by rfl) GP.mg GP.kp GP.bd .nil pass0 (pa_cons (pv 3)
            (pa_cons (pe_op op_mod (pe_call GA.ok hr1 (by rfl) GA.mg GA.kp GA.bd .nil pass0 (pa_cons (pv 1) (pa_cons pe_int pa_nil))) pe_int)
            (pa_cons (pe_op op_mod (pe_call GA.ok hr1 (by rfl) GA.mg GA.kp GA.bd .nil pass0 (pa_cons (pv 1) (pa_cons pe_int pa_nil))) (pv 2)) pa_nil)))) pa_nil))
            (pe_lst (pa_cons pe_bl pa_nil)) (nomark _)))) pss_nil)
      (pss_cons (ps_setLc (i := 6) (own := [("row", 9)]) (g := gName 9) (tt := tYes) (te := tTup (tCons (tOp (rIxT K) (tVar 9) (tC (.int 0))) (tCons (tCB (rListOf K) (tCons (tOp (rIxT K) (tVar 9) (tC (.int 1))) tNil)) tNil))) (by rfl) scLaw.nd rfl rfl (sw_true rfl rfl rfl (by decide +kernel)) (pi_list (pv 3))
          (blkOk_by (own := [("row", 9)]) (N := LN) (sc := defScope sLaw) (by decide +kernel)) (fun _ _ _ _ _ => pg_name (i := 9) scLaw.nd rfl (Or.inl rfl)) (fun _ _ _ _ _ => pts_nil)
          (fun _ _ _ _ _ => by exact (pe_tup (pa_cons (pe_ix ix_tup (pv 9) pe_int (fun _ _ => rfl)) (pa_cons (pe_callTy call_listOf (by rfl) T.lst boot_list (pa_cons (pe_ix ix_tup (pv 9) pe_int (fun _ _ => rfl)) pa_nil)) pa_nil)))))
      (pss_cons (ps_set (i := 7) scLaw.nd rfl (Or.inl rfl) (pe_call GL.ok hr (by rfl) GL.mg GL.kp GL.bd .nil pass0 (pa_cons (pv 3) pa_nil)))
      (pss_cons (ps_if (PW.pt (pw_or (pt_val (pe_callB call_isi (by rfl) T.bd.isi boot_isi (pa_cons (pv 7) (pa_cons (pe_bltn (v := .ty "list") (by rfl) T.lst boot_list rfl) pa_nil)))) (pw_or (pt_cmpR op_ne (pe_fld (pv 7) rfl) (pv 2) (nomark _)) (pw_or1 (pt_cmpR (op_neD hr.units) (pv 3) (pv 6) (nomark _))))))
          (pss_one (ps_ret pe_bl)) pss_nil)
      (pss_cons (ps_asg (pe_tup (pa_cons pe_int pa_nil)) (pg_sub (pe_ix ix_tup (pe_ix ix_list (pv 3) pe_int (fun _ _ => rfl)) pe_int (fun _ _ => rfl)) pe_int set_list))
      (pss_cons (ps_if (pt_cmpR (op_neD hr.units) (pe_meth0 (pv 7) T.cl m1 G1 hr1 b1 .nil pass0) (pv 6) (nomark _)) (pss_one (ps_ret pe_bl)) pss_nil)
      (pss_cons (ps_for PassesOwn.never rfl (pi_range1 (by rfl) T.bt.range (pa_cons (pv 2) pa_nil)) (pg_name (i := 4) scLaw.nd rfl (Or.inl rfl))
          (pss_cons (ps_if (pt_cmpR op_ne (pe_meth (pv 7) T.cl m3 G3 hr4 b3 .nil passL (pa_cons (pv 4) pa_nil)) (pe_ix ix_tup (pe_ix ix_list (pv 6) (pv 4) (fun _ _ => rfl)) pe_int (fun _ _ => rfl)) (nomark _)) (pss_one (ps_ret pe_bl)) pss_nil)
          (pss_one (ps_for PassesOwn.never rfl (pi_range1 (by rfl) T.bt.range (pa_cons pe_int pa_nil)) (pg_name (i := 8) scLaw.nd rfl (Or.inl rfl))
            (pss_one (ps_if (pt_cmpR (op_neD hr.units) (pe_meth (pv 7) T.cl m4 G4 hr5 b4 .nil passL (pa_cons (pv 4) (pa_cons (pv 8) pa_nil))) (pe_ix ix_list (pe_ix ix_tup (pe_ix ix_list (pv 6) (pv 4) (fun _ _ => rfl)) pe_int (fun _ _ => rfl)) (pv 8) (fun _ _ => rfl)) (nomark _)) (pss_one (ps_ret pe_bl)) pss_nil))))))
      (pss_cons (ps_expr (pe_meth (pv 7) T.cl m2 G2 hr4 b2 .nil passL (pa_cons pe_int pa_nil)))
      (pss_cons (ps_asg (pe_tup (pa_cons (pe_op op_add (pe_ix ix_tup (pe_ix ix_list (pv 6) pe_int (fun _ _ => rfl)) pe_int (fun _ _ => rfl)) pe_int) (pa_cons (pe_op op_rep (pe_lst (pa_cons pe_non pa_nil)) pe_int) pa_nil))) (pg_sub (pv 6) pe_int set_list))
      (pss_one (ps_ret (pe_cmpR (op_eqD hr.units) (pe_meth0 (pv 7) T.cl m1 G1 hr1 b1 .nil pass0) (pv 6) (nomark _))))))))))))))))), ?_⟩
    -- tape = _law_tape(script)
    refine ⟨_, rfl, a, ns, rfl, hS, hlen, fun tp ts htp hts htl => ?_⟩
    have htape : (upd H tp (.lst (ts.map V.int))) tp = some (.lst (ts.map V.int)) := upd_same
    generalize upd H tp (.lst (ts.map V.int)) = H0 at htape
    -- blocks = 8 + _law_at(tape, 0) % 17
    refine ⟨_, rfl, tp, ts, 0, rfl, SqL.of htape, _, _, rfl, rfl, (by show (0 : Int) < 17; decide), _, _, rfl, rfl, ?_⟩
    obtain ⟨n, hn⟩ : ∃ n : Nat, 8 + ts.getD 0 0 % 17 = (n : Int) := ⟨(8 + ts.getD 0 0 % 17).toNat, by omega⟩
    have hn8 : 8 ≤ n ∧ n ≤ 24 := by omega
    have en : (8 + ts.getD 0 0 % 17).toNat = n := by omega
    -- image = []
    refine ⟨by show 0 ≤ sizeLine; decide, fun im him => ?_⟩
    have s1 := same_new (o := .lst []) him
    have L0 : LI (upd H0 im (.lst [])) tp im ts [] [] [] := ⟨s1 _ _ htape, upd_same, rfl, rfl, (fun w h => by cases h), (fun v h => by cases h), (ne_of_none htape him).symm, fun i t h => by cases h⟩
    generalize upd H0 im (.lst []) = H1 at L0
    refine ⟨_, rfl, _, rfl, by omega, by omega, ?_⟩
    rw [en]
    refine for_range (lo := 0) (fun i σ H' => ∃ (v4 v5 : Option V) (tr : List Addr) (ws : List Int) (ps : List (List V)), σ = [some (.ref a), some (.ref tp), some (.int (8 + ts.getD 0 0 % 17)), some (.ref im), v4, v5, none, none, none, none] ∧ LI H' tp im ts tr ws ps ∧ ps.length = i)
      ⟨none, none, [], [], [], rfl, L0, rfl⟩ ?_ ?_
    · rintro i σ H2 hi ⟨v4, v5, tr, ws, ps, rfl, I2, hpl⟩
      refine ⟨_, rfl, _, rfl, _, _, rfl, rfl, tp, ts, 2 + i, ?_, SqL.of I2.tape, ?_⟩
      · show [V.ref tp, V.int (2 + (0 + (i : Int)))] = _
        rw [show (2 : Int) + (0 + (i : Int)) = ((2 + i : Nat) : Int) by omega]
      have hnum := hts.at (2 + i)
      generalize ts.getD (2 + i) 0 = num at hnum
      refine ⟨_, rfl, .inl ⟨rfl, _, SqL.of I2.iml⟩, _, rfl, _, _, rfl, rfl, ⟨by decide, by decide⟩, _, rfl, _, rfl, _, rfl, _, _, rfl, rfl, tp, ts, 3 + i, ?_, SqL.of I2.tape, ?_⟩
      · show [V.ref tp, V.int (3 + (0 + (i : Int)))] = _
        rw [show (3 : Int) + (0 + (i : Int)) = ((3 + i : Nat) : Int) by omega]
      have hpk := hts.at (3 + i)
      generalize ts.getD (3 + i) 0 = pk at hpk
      refine ⟨num, pk, rfl, hnum.1, hpk.1, fun c xs H3 hc s3 hcl hpx => ⟨by show 2 ≤ sizeLine; decide, fun t ht => ?_⟩⟩
      have I3 := (I2.same s3).same (same_new (o := .tup [.int (num / 9), .ref c]) ht)
      refine ⟨im, _, .ref t, rfl, rfl, I3.iml, ?_, _, _, _, _, _, rfl, I2.push hc s3 hcl hpx ht (by omega), by rw [List.length_append, hpl]; rfl⟩
      rw [List.length_map, I2.lt]; exact small1000 (by omega)
    rintro σ H2 ⟨v4, v5, tr, ws, ps, rfl, I2, hpl⟩
    have hlt : tr.length = n := I2.lt.trans hpl
    -- the sizes
    refine ⟨_, rfl, _, rfl, .inr ⟨by omega, by omega, fun H3 s3 => ⟨_, rfl, rfl, _, rfl, ?_⟩⟩⟩
    rw [decide_eq_true rfl]
    refine iteF ?_
    have I3 := I2.same s3
    obtain ⟨z, hz, hzb⟩ := szs (x0 := 7) (x1 := 25) (x2 := 0) (x3 := -8) (x4 := 1000000000) (by decide) (by decide) (by decide) (by decide) (by decide) (ts.getD 1 0 % 5).toNat (by omega)
    refine ⟨_, rfl, _, _, rfl, rfl, ⟨by decide, by decide, by decide⟩, by show 5 ≤ sizeLine; decide, fun l1 hl1 => ?_⟩
    have u1 := same_new (o := .lst [.int 7, .int 25, .int 0, .int (-8), .int 1000000000]) hl1
    refine ⟨_, rfl, tp, ts, 1, rfl, SqL.of (I3.same u1).tape, _, _, rfl, rfl, (by show (0 : Int) < 5; decide), l1, _, _, .int z, rfl, rfl, SqL.of upd_same, at_of (show ts.getD 1 0 % 5 = (((ts.getD 1 0 % 5).toNat : Nat) : Int) by omega) hz, ?_⟩
    refine ⟨z, rfl, .inl ⟨hzb, fun H4 l2 s4 hl2 => ?_⟩⟩
    have u2 := same_new (o := .lst [.bl true]) hl2
    refine ⟨by show 1 ≤ sizeLine; decide, fun l3 hl3 => ?_⟩
    have u3 := same_new (o := .lst [.bl true]) hl3
    refine ⟨_, _, dp_true (u3 _ _ upd_same), dp_true upd_same, sh_true, sh_true, _, rfl, ?_⟩
    rw [eq_true_]
    refine iteF ?_
    have I5 := (((I3.same u1).same s4).same u2).same u3
    generalize upd (upd H4 l2 (.lst [.bl true])) l3 (.lst [.bl true]) = H5 at I5
    clear u2 u3 hl2 hl3 s4 u1 hl1 I3 s3 I2
    -- a spoiled image
    refine ⟨_, rfl, tp, ts, 1, rfl, SqL.of I5.tape, _, _, rfl, rfl, (by show (0 : Int) < 2; decide), rfl, _, rfl, ?_⟩
    refine ite2 (fun _ => ?_) (fun _ => ?_)
    · refine ⟨_, rfl, _, rfl, tp, ts, 30, rfl, SqL.of I5.tape, _, _, rfl, rfl, (by show (0 : Int) < 10; decide), _, rfl, tp, ts, 31, rfl, SqL.of I5.tape, _, rfl, _, _, rfl, rfl, (by show (0 : Int) < 8 + ts.getD 0 0 % 17; omega), ?_⟩
      refine ⟨im, ws, ps, (ts.getD 30 0 % 10).toNat, (ts.getD 31 0 % (8 + ts.getD 0 0 % 17)).toNat, ?_, I5.img, by omega, by omega, I5.lw, I5.nn, I5.pg, by omega, ?_, fun v H6 hb s6 => ?_⟩
      · have e1 : ((ts.getD 30 0 % 10).toNat : Int) = ts.getD 30 0 % 10 := Int.toNat_of_nonneg (Int.emod_nonneg _ (by decide))
        have e2 : ((ts.getD 31 0 % (8 + ts.getD 0 0 % 17)).toNat : Int) = ts.getD 31 0 % (8 + ts.getD 0 0 % 17) := Int.toNat_of_nonneg (Int.emod_nonneg _ (by omega))
        rw [e1, e2]; rfl
      · have e3 := Int.emod_lt_of_pos (ts.getD 31 0) (b := 8 + ts.getD 0 0 % 17) (by omega)
        omega
      · refine nil_ ⟨v, rfl, .inl ⟨hb, fun H7 l s7 hl => ?_⟩⟩
        have u2 := same_new (o := .lst [.bl true]) hl
        refine ⟨by show 1 ≤ sizeLine; decide, fun l3 hl3 => ?_⟩
        refine ⟨_, _, dp_true (same_new hl3 _ _ upd_same), dp_true upd_same, sh_true, sh_true, ?_⟩
        rw [eq_true_]
        exact k _
    -- kept
    refine ⟨_, rfl, im, rfl, ⟨_, SqL.of I5.iml⟩, fun D hD => ?_⟩
    refine lc_newS (fun i q H' => q ≠ D ∧ ∃ (wv : Int) (d : Addr) (vs : List V), ws[i]? = some wv ∧ ps[i]? = some vs ∧ H' q = some (.tup [.int wv, .ref d]) ∧ H' d = some (.lst (row vs)) ∧ d ≠ D ∧ H5 d = Option.none)
      (fun i q Ha Hb hab ⟨n1, wv, d, vs, e1, e2, e3, e4, e5, e6⟩ => ⟨n1, wv, d, vs, e1, e2, hab _ _ n1 e3, hab _ _ e5 e4, e5, e6⟩) hD (SqL.of I5.iml) (fun _ => rfl) (by rw [List.length_map]; omega) (fun i x H' Q' hx s6 hDo q => ?_) fun H6 qs s6 hDl hql hqn hqD hq => ?_
    · obtain ⟨t, ht, rfl⟩ := map_get hx
      obtain ⟨wv, c', vs, a1, a2, a3, a4, a5⟩ := I5.rows i t ht
      refine ⟨_, rfl, t, _, _, _, rfl, rfl, SqT.of (s6 _ _ a3), atI_nat (j := 0) rfl, _, rfl, t, _, _, _, rfl, rfl, SqT.of (s6 _ _ a3), atI_nat (j := 1) rfl, c', _, rfl, .inl (SqL.of (s6 _ _ a4)), fun d hd => ⟨by show 2 ≤ sizeLine; decide, fun q' hq' => ?_⟩⟩
      obtain ⟨o, ho⟩ := hDo
      have v1 := same_new (o := .lst (row vs)) hd
      have v2 := same_new (o := .tup [.int wv, .ref d]) hq'
      exact q q' _ (v1.free hq') (v1.trans v2) ⟨(ne_of_none ho (v1.free hq')).symm, wv, d, vs, a1, a2, upd_same, v2 _ _ upd_same, (ne_of_none ho hd).symm, s6.free hd⟩ ⟨_, upd_same⟩
    have I6 := I5.same s6
    -- flash = _law_told(image)
    refine ⟨_, rfl, .ref im, rfl, .inr ⟨im, ws, ps, rfl, I6.img, by omega, by omega, I6.lw, I6.nn, I6.pg, fun p w c as H7 FA hp hw hc has s7 => ?_⟩⟩
    have I7 := I6.same s7
    have own6 : ∀ x ∈ (p :: w :: c :: as), H6 x = Option.none := fun x hx => by
      rcases List.mem_cons.mp hx with rfl | hx
      · exact hp
      rcases List.mem_cons.mp hx with rfl | hx
      · exact hw
      rcases List.mem_cons.mp hx with rfl | hx
      · exact hc
      · exact has x hx
    have h0 : 0 < tr.length := by omega
    obtain ⟨wv0, c0, vs0, g1, g2, g3, g4, g5⟩ := I5.rows 0 tr[0] (List.getElem?_eq_getElem h0)
    have c0own : c0 ∉ (p :: w :: c :: as) := fun hx => by
      have := own6 c0 hx
      rw [s6 _ _ g4] at this; cases this
    have nown : ∀ x o, H6 x = some o → x ∉ (p :: w :: c :: as) := fun x o hx hm => by rw [own6 x hm] at hx; cases hx
    have KI : ImgX (c0 :: p :: w :: c :: as) H7 D ws ps := by
      refine ⟨?_, qs, s7 _ _ hDl, ?_, fun i q hi => ?_⟩
      · intro hm
        rcases List.mem_cons.mp hm with e | hm
        · rw [e, g4] at hD; cases hD
        · exact nown D _ hDl hm
      · rw [hql, List.length_map, I5.lt]
      · obtain ⟨⟨_, wv, d, vs, e1, e2, e3, e4, e5, e6⟩, _⟩ := hq i q hi
        refine ⟨wv, d, vs, e1, e2, s7 _ _ e3, s7 _ _ e4, fun hm => ?_, e5⟩
        rcases List.mem_cons.mp hm with e | hm
        · rw [e, g4] at e6; cases e6
        · exact nown d _ e4 hm
    -- isinstance(flash, list) or flash.blocks != blocks or image != kept
    obtain ⟨dx, hob⟩ := id FA.ob
    refine ⟨_, rfl, .ref p, _, .ref C, _, false, rfl, .ty "list", .base (.ins hob T.cl IT.ha IT.hn IT.ht IT.hm), IT.kl, _, rfl, ?_⟩
    refine iteF ?_
    refine ⟨_, rfl, p, C, dx, _, _, rfl, hob, T.cl, T.n1, ff_blocks, _, rfl, rfl, _, rfl, ?_⟩
    rw [decide_eq_true (show V.int ((ps.length : Nat) : Int) = V.int (8 + ts.getD 0 0 % 17) by rw [hpl, hn])]
    refine iteF ?_
    obtain ⟨d7, sh7, eq7, hdp7⟩ := img_dp (K := K) I7.pg I7.lw
    refine ⟨_, rfl, _, rfl, d7, d7, hdp7 im I7.img, hdp7 D KI.img, sh7, sh7, _, rfl, ?_⟩
    rw [eq7]
    refine iteF ?_
    -- image[0][1][0] = (77,)
    refine ⟨by show 1 ≤ sizeLine; decide, fun t9 h9 => ?_⟩
    have s9 := same_new (o := .tup [.int 77]) h9
    have hp8 : (row vs0).length = 8 := row_len (I5.pg _ (List.mem_of_getElem? g2)).1
    have hc7 := s9 _ _ (s7 _ _ (s6 _ _ g4))
    refine ⟨_, rfl, im, _, _, _, rfl, rfl, SqL.of (s9 _ _ I7.iml), atI_nat (j := 0) (get_map (List.getElem?_eq_getElem h0)), tr[0], _, _, .ref c0, rfl, rfl, SqT.of (s9 _ _ (s7 _ _ (s6 _ _ g3))), atI_nat (j := 1) rfl, c0, _, _, 0, rfl, rfl, hc7, Evl.ixN_nat (by rw [hp8]; decide), ?_⟩
    have o8 : Off [c0] H7 (upd (upd H7 t9 (.tup [.int 77])) c0 (.lst ((row vs0).set 0 (.ref t9)))) := fun x o hx hn => by
      rw [upd_ne (by simpa using hn)]; exact s9 _ _ hx
    have t8 : Tups H7 (upd (upd H7 t9 (.tup [.int 77])) c0 (.lst ((row vs0).set 0 (.ref t9)))) := (same_tups s9).trans (Tups.lst hc7)
    generalize upd (upd H7 t9 (.tup [.int 77])) c0 (.lst ((row vs0).set 0 (.ref t9))) = H8 at o8 t8
    have FA8 := FA.off o8 t8 (fun x hx hm => by rw [List.mem_singleton.mp hm] at hx; exact c0own hx)
    have KI8 := KI.off o8 t8 (fun y hy => by rw [List.mem_singleton.mp hy]; exact List.mem_cons_self)
    -- flash.image() != kept
    obtain ⟨dx8, hob8⟩ := id FA8.ob
    refine ⟨_, rfl, p, dx8, _, rfl, hob8, ff_no (by decide +kernel), p, w, c, as, ws, ps, true, .non, .non, rfl, FA8, by omega, fun r H9 s9' IM => ?_⟩
    have FA9 := FA8.same' s9'
    have KI9 := KI8.same s9'
    obtain ⟨d9, sh9, eq9, hdp9⟩ := img_dp (K := K) FA9.pg FA9.lw
    refine ⟨_, rfl, d9, d9, hdp9 r IM.at_, hdp9 D KI9.img, sh9, sh9, _, rfl, ?_⟩
    rw [eq9]
    refine iteF ?_
    -- the wears and the pages
    refine ⟨_, rfl, _, rfl, by omega, by omega, ?_⟩
    rw [en]
    refine for_range (lo := 0) (fun i σ H' => ∃ v4 v8 : Option V, σ = [some (.ref a), some (.ref tp), some (.int (8 + ts.getD 0 0 % 17)), some (.ref im), v4, v5, some (.ref D), some (.ref p), v8, none] ∧ FlashAt C H' p w c as ws ps true .non .non ∧ ImgX (c0 :: p :: w :: c :: as) H' D ws ps)
      ⟨v4, none, rfl, FA9, KI9⟩ ?_ ?_
    · rintro i σ HA hi ⟨u4, u8, rfl, FAA, KIA⟩
      obtain ⟨dxA, hobA⟩ := id FAA.ob
      obtain ⟨nD, tr', hDA, htl', hrows⟩ := id KIA
      have e0 : (0 : Int) + (i : Int) = (i : Int) := by omega
      have hit : i < tr'.length := by omega
      obtain ⟨wv, d, vs, a1, a2, a3, a4, a5, a6⟩ := hrows i tr'[i] (List.getElem?_eq_getElem hit)
      refine ⟨_, rfl, p, dxA, _, rfl, hobA, ff_no (by decide +kernel), _, rfl, p, w, c, as, ws, ps, true, .non, .non, _, rfl, FAA, fun hn' => absurd ⟨by omega, by omega⟩ hn', fun j wv' e1 e2 => ?_⟩
      obtain rfl : j = i := by omega
      rw [a1] at e2; cases e2
      refine ⟨_, rfl, _, rfl, D, _, _, _, rfl, rfl, SqL.of hDA, (by rw [e0]; exact atI_nat (get_map (List.getElem?_eq_getElem hit))), tr'[j], _, _, _, rfl, rfl, SqT.of a3, atI_nat (j := 0) rfl, rfl, _, rfl, ?_⟩
      rw [decide_eq_true rfl]
      refine iteF ?_
      refine ⟨8, rfl, by decide, by decide, ?_⟩
      refine for_range (lo := 0) (n := 8) (fun g σ H' => ∃ v8 : Option V, σ = [some (.ref a), some (.ref tp), some (.int (8 + ts.getD 0 0 % 17)), some (.ref im), some (.int (0 + (j : Int))), v5, some (.ref D), some (.ref p), v8, none] ∧ FlashAt C H' p w c as ws ps true .non .non ∧ ImgX (c0 :: p :: w :: c :: as) H' D ws ps)
        ⟨u8, rfl, FAA, KIA⟩ ?_ ?_
      · rintro g σ HB hg ⟨u8, rfl, FAB, KIB⟩
        obtain ⟨dxB, hobB⟩ := id FAB.ob
        obtain ⟨nD, tr', hDB, htl', hrows⟩ := id KIB
        have hit : j < tr'.length := by omega
        obtain ⟨wv, d, vs, a1, a2, a3, a4, a5, a6⟩ := hrows j tr'[j] (List.getElem?_eq_getElem hit)
        refine ⟨_, rfl, p, dxB, _, rfl, hobB, ff_no (by decide +kernel), _, rfl, _, rfl, p, w, c, as, ws, ps, true, .non, .non, _, _, rfl, FAB, fun hn' => absurd ⟨⟨by omega, by omega⟩, by omega, by omega⟩ hn', fun j2 i2 vs2 v e1 e2 e3 e4 => ⟨fun z => Bool.noConfusion z, fun _ => ?_⟩⟩
        obtain rfl : j2 = j := by omega
        obtain rfl : i2 = g := by omega
        rw [a2] at e3; cases e3
        obtain ⟨dv, dv1, dv2, dv3, _⟩ := (row_all (FAB.pg _ (List.mem_of_getElem? a2)) v (List.mem_of_getElem? e4)).1.dp (K := K)
        have shv : SeqAt.shaped dv = true := shaped_of dv2 (by omega)
        refine ⟨_, rfl, _, rfl, D, _, _, _, rfl, rfl, SqL.of hDB, (by rw [e0]; exact atI_nat (get_map (List.getElem?_eq_getElem hit))), tr'[j2], _, _, _, rfl, rfl, SqT.of a3, atI_nat (j := 1) rfl, _, rfl, d, _, _, v, rfl, rfl, SqL.of a4, at_of (show (0 : Int) + (i2 : Int) = (i2 : Int) by omega) e4, dv, dv, dv1, dv1, shv, shv, _, rfl, ?_⟩
        rw [SeqAt.eqv_refl _ (SeqAt.canLay_of_shaped shv)]
        exact iteF ⟨_, rfl, FAB, KIB⟩
      · rintro σ HB ⟨u8, rfl, FAB, KIB⟩
        exact ⟨_, _, rfl, FAB, KIB⟩
    rintro σ HA ⟨u4, u8, rfl, FAA, KIA⟩
    -- flash.erase(1)
    obtain ⟨dxA, hobA⟩ := id FAA.ob
    refine ⟨_, rfl, p, dxA, _, rfl, hobA, ff_no (by decide +kernel), p, w, c, as, ws, ps, true, .non, .non, 1, rfl, FAA, .inl rfl, fun hn' => absurd ⟨by omega, by omega⟩ hn', fun j e1 e2 => ⟨fun z => Bool.noConfusion z, fun _ z => (by cases z), fun _ _ HB FB oB tB => .inl ⟨rfl, .inl rfl, fun q HC wv hq hw' FC oC tC => ?_⟩⟩⟩
    obtain rfl : j = 1 := by omega
    have sub1 : ∀ y ∈ [p], y ∈ (c0 :: p :: w :: c :: as) := fun y hy => by rw [List.mem_singleton.mp hy]; exact List.mem_cons_of_mem _ List.mem_cons_self
    have KIB := KIA.off oB tB sub1
    have KIC := KIB.off oC tC (fun y hy => List.mem_cons_of_mem _ hy)
    obtain ⟨nD, tr', hDC, htl', hrows⟩ := id KIC
    have hit : 1 < tr'.length := by omega
    obtain ⟨wv1, d, vs, a1, a2, a3, a4, a5, a6⟩ := hrows 1 tr'[1] (List.getElem?_eq_getElem hit)
    rw [hw'] at a1; cases a1
    have hlt' : (tr'.map V.ref).length = n := by rw [List.length_map, htl', hpl]
    -- kept[1] = (kept[1][0] + 1, [None] * 8)
    refine ⟨_, rfl, D, _, _, _, rfl, rfl, SqL.of hDC, atI_nat (j := 1) (get_map (List.getElem?_eq_getElem hit)), tr'[1], _, _, _, rfl, rfl, SqT.of a3, atI_nat (j := 0) rfl, _, _, rfl, rfl, by show 1 ≤ sizeLine; decide, fun k1 hk1 => ?_⟩
    have u1 := same_new (o := .lst [.non]) hk1
    refine ⟨k1, _, [.non], rfl, rfl, upd_same, by decide, by decide, by show 8 ≤ sizeLine; decide, fun k2 hk2 => ⟨by show 2 ≤ sizeLine; decide, fun t ht => ?_⟩⟩
    have er : (List.replicate (Int.toNat 8) [V.non]).flatten = row [] := by decide
    rw [er] at ht ⊢
    have u2 := same_new (o := .lst (row [])) hk2
    have u3 := same_new (o := .tup [.int (wv + 1), .ref k2]) ht
    have sC := u1.trans (u2.trans u3)
    have hDC' := sC _ _ hDC
    have ek2 := u3 _ _ (upd_same (H := upd HC k1 (.lst [.non])) (a := k2) (o := .lst (row [])))
    have et := upd_same (H := upd (upd HC k1 (.lst [.non])) k2 (.lst (row []))) (a := t) (o := .tup [.int (wv + 1), .ref k2])
    have k2D : k2 ≠ D := (ne_of_none (u1 _ _ hDC) hk2).symm
    refine ⟨_, rfl, D, _, _, 1, rfl, rfl, hDC', Evl.ixN_nat (j := 1) (by rw [hlt']; omega), ?_⟩
    have IMK := img_set (j := 1) htl' (FAA.lw) (fun i u hu => by
      obtain ⟨wv, c, vs, a, b, d, e, _, g⟩ := hrows i u hu
      exact ⟨wv, c, vs, a, b, d, e, g⟩) sC ⟨_, hDC'⟩ et ek2 k2D e2
    have oD : Off [D] HC (upd (upd (upd (upd HC k1 (.lst [.non])) k2 (.lst (row []))) t (.tup [.int (wv + 1), .ref k2])) D (.lst ((tr'.map V.ref).set 1 (.ref t)))) := fun x o hx hn => by
      rw [upd_ne (by simpa using hn)]; exact sC _ _ hx
    have tD : Tups HC (upd (upd (upd (upd HC k1 (.lst [.non])) k2 (.lst (row []))) t (.tup [.int (wv + 1), .ref k2])) D (.lst ((tr'.map V.ref).set 1 (.ref t)))) := (same_tups sC).trans (Tups.lst hDC')
    have hDA : ∃ o, HB D = some o := by
      obtain ⟨_, tr2, hDB, _⟩ := id KIB
      exact ⟨_, hDB⟩
    have FD := FC.off oD tD (fun x hx hm => by
      rw [List.mem_singleton.mp hm] at hx
      rcases List.mem_cons.mp hx with e | hx
      · exact nD (e ▸ List.mem_cons_of_mem _ List.mem_cons_self)
      rcases List.mem_cons.mp hx with e | hx
      · exact nD (e ▸ List.mem_cons_of_mem _ (List.mem_cons_of_mem _ List.mem_cons_self))
      rcases List.mem_cons.mp hx with e | hx
      · exact nD (e ▸ List.mem_cons_of_mem _ (List.mem_cons_of_mem _ (List.mem_cons_of_mem _ List.mem_cons_self)))
      rcases List.mem_or_eq_of_mem_set hx with h | h
      · exact nD (List.mem_cons_of_mem _ (List.mem_cons_of_mem _ (List.mem_cons_of_mem _ (List.mem_cons_of_mem _ h))))
      · obtain ⟨o, ho⟩ := hDA
        rw [h, hq] at ho; cases ho)
    generalize upd (upd (upd (upd HC k1 (.lst [.non])) k2 (.lst (row []))) t (.tup [.int (wv + 1), .ref k2])) D (.lst ((tr'.map V.ref).set 1 (.ref t))) = HD at IMK FD
    -- flash.image() == kept
    obtain ⟨dxD, hobD⟩ := id FD.ob
    refine ⟨_, rfl, p, dxD, _, rfl, hobD, ff_no (by decide +kernel), p, w, c, _, _, _, _, _, _, rfl, FD, by rw [List.length_set]; omega, fun r2 HE sE IM2 => ?_⟩
    have FE := FD.same' sE
    obtain ⟨dE, shE, eqE, hdpE⟩ := img_dp (K := K) FE.pg FE.lw
    have IMKE : ImgAt HE D (ws.set 1 (wv + 1)) (ps.set 1 (era .non)) := by
      obtain ⟨tr3, i1, i2, i3⟩ := IMK
      refine ⟨tr3, sE _ _ i1, i2, fun i t ht => ?_⟩
      obtain ⟨wv', c', vs', b1, b2, b3, b4⟩ := i3 i t ht
      exact ⟨wv', c', vs', b1, b2, sE _ _ b3, sE _ _ b4⟩
    refine ⟨_, rfl, dE, dE, hdpE r2 IM2.at_, hdpE D IMKE, shE, shE, ?_⟩
    rw [eqE]
    exact k HE
end
end Sg

set_option Elab.async false
set_option linter.all false
set_option maxRecDepth 100000
set_option maxHeartbeats 8000000
namespace Sg
open PySem PySem.Spec PyProof.Rows L2
theorem all_mk {l : PySem.W.OpenLaw} {w : World} {K : PySem.W.Frag} {h : Heap} {mg : Str → Option Value} {fa C CN CP CS fW fAL fB fFf fFe fBk fPg fT fA fPs fSp fTo fTz fL fI fRd fEr fWe fIg fKb fKp fPo fOp fCa : Addr} (X : K.In h) (G : h.Ns mainGlobals mg) (hfa : mg "law" = some (.ref fa))
    {odW anW odAL anAL odB anB odFf anFf odFe anFe odBk anBk odPg anPg odT anT odA anA odPs anPs odSp anSp odTo anTo odTz anTz odL anL odI anI odRd anRd odEr anEr odWe anWe odIg anIg odKb anKb odKp anKp odPo anPo odOp anOp odCa anCa : Option Addr} {slW slAL slB slFf slFe slBk slPg slT slA slPs slSp slTo slTz slL slI slRd slEr slWe slIg slKb slKp slPo slOp slCa : Array (Option Value)} {ocW kVW dcW pmW cdW ctW ocAL kVAL dcAL pmAL cdAL ctAL ocB kVB dcB pmB cdB ctB ocFf kVFf dcFf pmFf cdFf ctFf ocFe kVFe dcFe pmFe cdFe ctFe ocBk kVBk dcBk pmBk cdBk ctBk ocPg kVPg dcPg pmPg cdPg ctPg ocT kVT dcT pmT cdT ctT ocA kVA dcA pmA cdA ctA ocPs kVPs dcPs pmPs cdPs ctPs ocSp kVSp dcSp pmSp cdSp ctSp ocTo kVTo dcTo pmTo cdTo ctTo ocTz kVTz dcTz pmTz cdTz ctTz ocL kVL dcL pmL cdL ctL ocI kVI dcI pmI cdI ctI ocRd kVRd dcRd pmRd cdRd ctRd ocEr kVEr dcEr pmEr cdEr ctEr ocWe kVWe dcWe pmWe cdWe ctWe ocIg kVIg dcIg pmIg cdIg ctIg ocKb kVKb dcKb pmKb cdKb ctKb ocKp kVKp dcKp pmKp cdKp ctKp ocPo kVPo dcPo pmPo cdPo ctPo ocOp kVOp dcOp pmOp cdOp ctOp ocCa kVCa dcCa pmCa cdCa ctCa : Value} {tPAGES tMIN_BLOCKS tMAX_BLOCKS tTORN : Tok}
    (aC : PySem.W.nsIn K mainGlobals "Flash" = some (some (.ref C)))
    (aN : PySem.W.nsIn K mainGlobals "NotValid" = some (some (.ref CN)))
    (aP : PySem.W.nsIn K mainGlobals "PowerOff" = some (some (.ref CP)))
    (aS : PySem.W.nsIn K mainGlobals "SpindleError" = some (some (.ref CS)))
    (aW : PySem.W.nsIn K mainGlobals "is_whole" = some (some (.ref fW)))
    (lW : K.lookup fW = some ⟨ocW, odW, .func (PySem.W.fnOf "is_whole" "is_whole" (defArgs sWhole) (defBody sWhole) (defScope sWhole) .none kVW dcW pmW anW cdW ctW), slW⟩)
    (cW : PySem.W.codeIn K cdW "is_whole" = true)
    (kW : PySem.W.keepIn K (.ref fW) = true)
    (aAL : PySem.W.nsIn K mainGlobals "is_at_least" = some (some (.ref fAL)))
    (lAL : K.lookup fAL = some ⟨ocAL, odAL, .func (PySem.W.fnOf "is_at_least" "is_at_least" (defArgs sAtLeast) (defBody sAtLeast) (defScope sAtLeast) .none kVAL dcAL pmAL anAL cdAL ctAL), slAL⟩)
    (cAL : PySem.W.codeIn K cdAL "is_at_least" = true)
    (kAL : PySem.W.keepIn K (.ref fAL) = true)
    (aB : PySem.W.nsIn K mainGlobals "is_between" = some (some (.ref fB)))
    (lB : K.lookup fB = some ⟨ocB, odB, .func (PySem.W.fnOf "is_between" "is_between" (defArgs sBetween) (defBody sBetween) (defScope sBetween) .none kVB dcB pmB anB cdB ctB), slB⟩)
    (cB : PySem.W.codeIn K cdB "is_between" = true)
    (kB : PySem.W.keepIn K (.ref fB) = true)
    (aFf : PySem.W.nsIn K mainGlobals "flash_from" = some (some (.ref fFf)))
    (lFf : K.lookup fFf = some ⟨ocFf, odFf, .func (PySem.W.fnOf "flash_from" "flash_from" (defArgs sFrom) (defBody sFrom) (defScope sFrom) .none kVFf dcFf pmFf anFf cdFf ctFf), slFf⟩)
    (cFf : PySem.W.codeIn K cdFf "flash_from" = true)
    (kFf : PySem.W.keepIn K (.ref fFf) = true)
    (aFe : PySem.W.nsIn K mainGlobals "first_erased" = some (some (.ref fFe)))
    (lFe : K.lookup fFe = some ⟨ocFe, odFe, .func (PySem.W.fnOf "first_erased" "first_erased" (defArgs sFirst) (defBody sFirst) (defScope sFirst) .none kVFe dcFe pmFe anFe cdFe ctFe), slFe⟩)
    (cFe : PySem.W.codeIn K cdFe "first_erased" = true)
    (kFe : PySem.W.keepIn K (.ref fFe) = true)
    (aBk : PySem.W.nsIn K mainGlobals "_is_block" = some (some (.ref fBk)))
    (lBk : K.lookup fBk = some ⟨ocBk, odBk, .func (PySem.W.fnOf "_is_block" "_is_block" (defArgs sIsBlock) (defBody sIsBlock) (defScope sIsBlock) .none kVBk dcBk pmBk anBk cdBk ctBk), slBk⟩)
    (cBk : PySem.W.codeIn K cdBk "_is_block" = true)
    (kBk : PySem.W.keepIn K (.ref fBk) = true)
    (aPg : PySem.W.nsIn K mainGlobals "_is_page" = some (some (.ref fPg)))
    (lPg : K.lookup fPg = some ⟨ocPg, odPg, .func (PySem.W.fnOf "_is_page" "_is_page" (defArgs sIsPage) (defBody sIsPage) (defScope sIsPage) .none kVPg dcPg pmPg anPg cdPg ctPg), slPg⟩)
    (cPg : PySem.W.codeIn K cdPg "_is_page" = true)
    (kPg : PySem.W.keepIn K (.ref fPg) = true)
    (aT : PySem.W.nsIn K mainGlobals "_law_tape" = some (some (.ref fT)))
    (lT : K.lookup fT = some ⟨ocT, odT, .func (PySem.W.fnOf "_law_tape" "_law_tape" (defArgs sTape) (defBody sTape) (defScope sTape) .none kVT dcT pmT anT cdT ctT), slT⟩)
    (cT : PySem.W.codeIn K cdT "_law_tape" = true)
    (kT : PySem.W.keepIn K (.ref fT) = true)
    (aA : PySem.W.nsIn K mainGlobals "_law_at" = some (some (.ref fA)))
    (lA : K.lookup fA = some ⟨ocA, odA, .func (PySem.W.fnOf "_law_at" "_law_at" (defArgs sAt) (defBody sAt) (defScope sAt) .none kVA dcA pmA anA cdA ctA), slA⟩)
    (cA : PySem.W.codeIn K cdA "_law_at" = true)
    (kA : PySem.W.keepIn K (.ref fA) = true)
    (aPs : PySem.W.nsIn K mainGlobals "_law_pages" = some (some (.ref fPs)))
    (lPs : K.lookup fPs = some ⟨ocPs, odPs, .func (PySem.W.fnOf "_law_pages" "_law_pages" (defArgs sPages) (defBody sPages) (defScope sPages) .none kVPs dcPs pmPs anPs cdPs ctPs), slPs⟩)
    (cPs : PySem.W.codeIn K cdPs "_law_pages" = true)
    (kPs : PySem.W.keepIn K (.ref fPs) = true)
    (aSp : PySem.W.nsIn K mainGlobals "_law_spoiled" = some (some (.ref fSp)))
    (lSp : K.lookup fSp = some ⟨ocSp, odSp, .func (PySem.W.fnOf "_law_spoiled" "_law_spoiled" (defArgs sSpoil) (defBody sSpoil) (defScope sSpoil) .none kVSp dcSp pmSp anSp cdSp ctSp), slSp⟩)
    (cSp : PySem.W.codeIn K cdSp "_law_spoiled" = true)
    (kSp : PySem.W.keepIn K (.ref fSp) = true)
    (aTo : PySem.W.nsIn K mainGlobals "_law_told" = some (some (.ref fTo)))
    (lTo : K.lookup fTo = some ⟨ocTo, odTo, .func (PySem.W.fnOf "_law_told" "_law_told" (defArgs sTold) (defBody sTold) (defScope sTold) .none kVTo dcTo pmTo anTo cdTo ctTo), slTo⟩)
    (cTo : PySem.W.codeIn K cdTo "_law_told" = true)
    (kTo : PySem.W.keepIn K (.ref fTo) = true)
    (aTz : PySem.W.nsIn K mainGlobals "_law_told_size" = some (some (.ref fTz)))
    (lTz : K.lookup fTz = some ⟨ocTz, odTz, .func (PySem.W.fnOf "_law_told_size" "_law_told_size" (defArgs sToldSize) (defBody sToldSize) (defScope sToldSize) .none kVTz dcTz pmTz anTz cdTz ctTz), slTz⟩)
    (cTz : PySem.W.codeIn K cdTz "_law_told_size" = true)
    (kTz : PySem.W.keepIn K (.ref fTz) = true)
    (aL : PySem.W.nsIn K mainGlobals "law" = some (some (.ref fL)))
    (lL : K.lookup fL = some ⟨ocL, odL, .func (PySem.W.fnOf "law" "law" (defArgs sLaw) (defBody sLaw) (defScope sLaw) .none kVL dcL pmL anL cdL ctL), slL⟩)
    (cL : PySem.W.codeIn K cdL "law" = true)
    (kL : PySem.W.keepIn K (.ref fL) = true)
    (aI : PySem.W.findIn K (.ref C) "__init__" = some (some (.ref fI)))
    (iI : PySem.W.isFn K (.ref fI) = true)
    (lI : K.lookup fI = some ⟨ocI, odI, .func (PySem.W.fnOf "__init__" "Flash.__init__" (defArgs (cF 0)) (defBody (cF 0)) (defScope (cF 0)) .none kVI dcI pmI anI cdI ctI), slI⟩)
    (cI : PySem.W.codeIn K cdI "Flash.__init__" = true)
    (kI : PySem.W.keepIn K (.ref fI) = true)
    (aRd : PySem.W.findIn K (.ref C) "read" = some (some (.ref fRd)))
    (iRd : PySem.W.isFn K (.ref fRd) = true)
    (lRd : K.lookup fRd = some ⟨ocRd, odRd, .func (PySem.W.fnOf "read" "Flash.read" (defArgs (cF 1)) (defBody (cF 1)) (defScope (cF 1)) .none kVRd dcRd pmRd anRd cdRd ctRd), slRd⟩)
    (cRd : PySem.W.codeIn K cdRd "Flash.read" = true)
    (kRd : PySem.W.keepIn K (.ref fRd) = true)
    (aEr : PySem.W.findIn K (.ref C) "erase" = some (some (.ref fEr)))
    (iEr : PySem.W.isFn K (.ref fEr) = true)
    (lEr : K.lookup fEr = some ⟨ocEr, odEr, .func (PySem.W.fnOf "erase" "Flash.erase" (defArgs (cF 3)) (defBody (cF 3)) (defScope (cF 3)) .none kVEr dcEr pmEr anEr cdEr ctEr), slEr⟩)
    (cEr : PySem.W.codeIn K cdEr "Flash.erase" = true)
    (kEr : PySem.W.keepIn K (.ref fEr) = true)
    (aWe : PySem.W.findIn K (.ref C) "wear" = some (some (.ref fWe)))
    (iWe : PySem.W.isFn K (.ref fWe) = true)
    (lWe : K.lookup fWe = some ⟨ocWe, odWe, .func (PySem.W.fnOf "wear" "Flash.wear" (defArgs (cF 4)) (defBody (cF 4)) (defScope (cF 4)) .none kVWe dcWe pmWe anWe cdWe ctWe), slWe⟩)
    (cWe : PySem.W.codeIn K cdWe "Flash.wear" = true)
    (kWe : PySem.W.keepIn K (.ref fWe) = true)
    (aIg : PySem.W.findIn K (.ref C) "image" = some (some (.ref fIg)))
    (iIg : PySem.W.isFn K (.ref fIg) = true)
    (lIg : K.lookup fIg = some ⟨ocIg, odIg, .func (PySem.W.fnOf "image" "Flash.image" (defArgs (cF 7)) (defBody (cF 7)) (defScope (cF 7)) .none kVIg dcIg pmIg anIg cdIg ctIg), slIg⟩)
    (cIg : PySem.W.codeIn K cdIg "Flash.image" = true)
    (kIg : PySem.W.keepIn K (.ref fIg) = true)
    (aKb : PySem.W.findIn K (.ref C) "_check_block" = some (some (.ref fKb)))
    (iKb : PySem.W.isFn K (.ref fKb) = true)
    (lKb : K.lookup fKb = some ⟨ocKb, odKb, .func (PySem.W.fnOf "_check_block" "Flash._check_block" (defArgs (cF 8)) (defBody (cF 8)) (defScope (cF 8)) .none kVKb dcKb pmKb anKb cdKb ctKb), slKb⟩)
    (cKb : PySem.W.codeIn K cdKb "Flash._check_block" = true)
    (kKb : PySem.W.keepIn K (.ref fKb) = true)
    (aKp : PySem.W.findIn K (.ref C) "_check_page" = some (some (.ref fKp)))
    (iKp : PySem.W.isFn K (.ref fKp) = true)
    (lKp : K.lookup fKp = some ⟨ocKp, odKp, .func (PySem.W.fnOf "_check_page" "Flash._check_page" (defArgs (cF 9)) (defBody (cF 9)) (defScope (cF 9)) .none kVKp dcKp pmKp anKp cdKp ctKp), slKp⟩)
    (cKp : PySem.W.codeIn K cdKp "Flash._check_page" = true)
    (kKp : PySem.W.keepIn K (.ref fKp) = true)
    (aPo : PySem.W.findIn K (.ref C) "_check_power" = some (some (.ref fPo)))
    (iPo : PySem.W.isFn K (.ref fPo) = true)
    (lPo : K.lookup fPo = some ⟨ocPo, odPo, .func (PySem.W.fnOf "_check_power" "Flash._check_power" (defArgs (cF 10)) (defBody (cF 10)) (defScope (cF 10)) .none kVPo dcPo pmPo anPo cdPo ctPo), slPo⟩)
    (cPo : PySem.W.codeIn K cdPo "Flash._check_power" = true)
    (kPo : PySem.W.keepIn K (.ref fPo) = true)
    (aOp : PySem.W.findIn K (.ref C) "_operate" = some (some (.ref fOp)))
    (iOp : PySem.W.isFn K (.ref fOp) = true)
    (lOp : K.lookup fOp = some ⟨ocOp, odOp, .func (PySem.W.fnOf "_operate" "Flash._operate" (defArgs (cF 11)) (defBody (cF 11)) (defScope (cF 11)) .none kVOp dcOp pmOp anOp cdOp ctOp), slOp⟩)
    (cOp : PySem.W.codeIn K cdOp "Flash._operate" = true)
    (kOp : PySem.W.keepIn K (.ref fOp) = true)
    (aCa : PySem.W.findIn K (.ref C) "_carry_out" = some (some (.ref fCa)))
    (iCa : PySem.W.isFn K (.ref fCa) = true)
    (lCa : K.lookup fCa = some ⟨ocCa, odCa, .func (PySem.W.fnOf "_carry_out" "Flash._carry_out" (defArgs (cF 12)) (defBody (cF 12)) (defScope (cF 12)) .none kVCa dcCa pmCa anCa cdCa ctCa), slCa⟩)
    (cCa : PySem.W.codeIn K cdCa "Flash._carry_out" = true)
    (kCa : PySem.W.keepIn K (.ref fCa) = true)
    (pg : PySem.W.plainGet K C Str.empty = true)
    (hdC : PySem.W.hasDictIn K C = true)
    (po : PySem.W.plainOver K C = true)
    (sa : PySem.W.findIn K (.ref C) "__setattr__" = some (some (.builtin "object.__setattr__")))
    (mk : PySem.W.makesIn K C = true)
    (kc : PySem.W.keepIn K (.ref C) = true)
    (n1 : PySem.W.findIn K (.ref C) "blocks" = some none)
    (n2 : PySem.W.findIn K (.ref C) "_wears" = some none)
    (n3 : PySem.W.findIn K (.ref C) "_contents" = some none)
    (n4 : PySem.W.findIn K (.ref C) "_powered" = some none)
    (n5 : PySem.W.findIn K (.ref C) "_remaining" = some none)
    (n6 : PySem.W.findIn K (.ref C) "_interrupted" = some none)
    (xNe : PySem.W.excIn K CN [.type "ValueError", .type "Exception", .type "BaseException", .type "object"] "ValueError.__new__" = true)
    (kNe : PySem.W.keepIn K (.ref CN) = true)
    (bNe : PySem.W.subIn K (.ref CN) (.type "BaseException") = some true)
    (tNe : PySem.W.typeIn K (.ref CN) = some (.type "type"))
    (sNe : PySem.W.subIn K (.ref CN) (.ref CS) = some true)
    (xPe : PySem.W.excIn K CP [.type "ValueError", .type "Exception", .type "BaseException", .type "object"] "ValueError.__new__" = true)
    (kPe : PySem.W.keepIn K (.ref CP) = true)
    (bPe : PySem.W.subIn K (.ref CP) (.type "BaseException") = some true)
    (tPe : PySem.W.typeIn K (.ref CP) = some (.type "type"))
    (sPe : PySem.W.subIn K (.ref CP) (.ref CS) = some true)
    (iSe : PySem.W.isClsIn K CS = true)
    (bSe : PySem.W.subIn K (.ref CS) (.type "BaseException") = some true)
    (tSe : PySem.W.typeIn K (.ref CS) = some (.type "type"))
    (e1 : PySem.W.findIn K (.ref CN) "__getattribute__" = some (some (.builtin "BaseException.__getattribute__")))
    (e2 : PySem.W.findIn K (.ref CN) "__getattr__" = some none)
    (e3 : PySem.W.hasDictIn K CN = true)
    (e4 : PySem.W.findIn K (.ref CN) "__class__" = some (some (.builtin "object.__class__")))
    (e5 : PySem.W.specialIn K (.builtin "object.__class__") "__get__" = some (some (.builtin "getset_descriptor.__get__")))
    (e6 : PySem.W.takesIn K (.builtin "object.__class__") = some true)
    (e7 : PySem.W.mroIn K CN (.type "object") = some true)
    (j1 : PySem.W.findIn K (.ref C) "__class__" = some (some (.builtin "object.__class__")))
    (j4 : PySem.W.mroIn K C (.type "object") = some true)
    (j5 : PySem.W.kitOne K (.ref C) (.type "list") = some false)
    (gTORN : PySem.W.nsIn K mainGlobals "TORN" = some (some (.str "torn" tTORN)))
    (gPAGES : PySem.W.nsIn K mainGlobals "PAGES" = some (some (.int 8 tPAGES)))
    (gMIN_BLOCKS : PySem.W.nsIn K mainGlobals "MIN_BLOCKS" = some (some (.int 8 tMIN_BLOCKS)))
    (gMAX_BLOCKS : PySem.W.nsIn K mainGlobals "MAX_BLOCKS" = some (some (.int 24 tMAX_BLOCKS)))
    (z_isinstance : PySem.W.nsIn K mainGlobals "isinstance" = some none)
    (z_int : PySem.W.nsIn K mainGlobals "int" = some none)
    (z_bool : PySem.W.nsIn K mainGlobals "bool" = some none)
    (z_range : PySem.W.nsIn K mainGlobals "range" = some none)
    (z_len : PySem.W.nsIn K mainGlobals "len" = some none)
    (z_abs : PySem.W.nsIn K mainGlobals "abs" = some none)
    (z_list : PySem.W.nsIn K mainGlobals "list" = some none)
    (z_tuple : PySem.W.nsIn K mainGlobals "tuple" = some none)
    (z_str : PySem.W.nsIn K mainGlobals "str" = some none)
    (z_all : PySem.W.nsIn K mainGlobals "all" = some none)
    : ∃ fd : FuncData, (∀ (s : Shared) (v : Value), BindsTo s fd ⟨[v], []⟩ [("script", v)]) ∧ ∀ base : Heap, K.In base → base.Ns mainGlobals mg → FnOk l.prog w K mg base CX0 7 fa fd ["script"] (spLaw K) := by
  have e := hfa.symm.trans (PySem.W.mg_of X G aL)
  cases e
  have B : Blt mg := ⟨PySem.W.mg_none_of X G z_range, PySem.W.mg_none_of X G z_len, PySem.W.mg_none_of X G z_abs, PySem.W.mg_none_of X G z_int⟩
  have D : Bds mg fW := ⟨PySem.W.mg_none_of X G z_isinstance, PySem.W.mg_none_of X G z_int, PySem.W.mg_none_of X G z_bool, PySem.W.mg_of X G aW⟩
  have T : FT K mg C CN CP CS fW fB := { cl := ⟨pg, hdC, po, sa⟩, n1 := n1, n2 := n2, n3 := n3, n4 := n4, n5 := n5, n6 := n6, gC := PySem.W.mg_of X G aC, gN := PySem.W.mg_of X G aN, xN := xNe, kN := kNe, bN := bNe, tN := tNe, gP := PySem.W.mg_of X G aP, xP := xPe, kP := kPe, bP := bPe, tP := tPe, gS := PySem.W.mg_of X G aS, eN := exm_sub bSe iSe tSe sNe, eP := exm_sub bSe iSe tSe sPe, gB := PySem.W.mg_of X G aB, bd := D, bt := B, lst := PySem.W.mg_none_of X G z_list, tup := PySem.W.mg_none_of X G z_tuple, pag := ⟨_, PySem.W.mg_of X G gPAGES⟩, mnb := ⟨_, PySem.W.mg_of X G gMIN_BLOCKS⟩, mxb := ⟨_, PySem.W.mg_of X G gMAX_BLOCKS⟩ }
  have XC : ExcC K CN := ⟨e1, e2, bNe, e3, e4, e5, e6, e7⟩
  have FW := fun_mk (st := sWhole) lW cW kW
  have FAL := fun_mk (st := sAtLeast) lAL cAL kAL
  have FB := fun_mk (st := sBetween) lB cB kB
  have FFf := fun_mk (st := sFrom) lFf cFf kFf
  have FFe := fun_mk (st := sFirst) lFe cFe kFe
  have FBk := fun_mk (st := sIsBlock) lBk cBk kBk
  have FPg := fun_mk (st := sIsPage) lPg cPg kPg
  have FT := fun_mk (st := sTape) lT cT kT
  have FA := fun_mk (st := sAt) lA cA kA
  have FPs := fun_mk (st := sPages) lPs cPs kPs
  have FSp := fun_mk (st := sSpoil) lSp cSp kSp
  have FTo := fun_mk (st := sTold) lTo cTo kTo
  have FTz := fun_mk (st := sToldSize) lTz cTz kTz
  have FL := fun_mk (st := sLaw) lL cL kL
  have FI := fun_mk (st := cF 0) lI cI kI
  have FRd := fun_mk (st := cF 1) lRd cRd kRd
  have FEr := fun_mk (st := cF 3) lEr cEr kEr
  have FWe := fun_mk (st := cF 4) lWe cWe kWe
  have FIg := fun_mk (st := cF 7) lIg cIg kIg
  have FKb := fun_mk (st := cF 8) lKb cKb kKb
  have FKp := fun_mk (st := cF 9) lKp cKp kKp
  have FPo := fun_mk (st := cF 10) lPo cPo kPo
  have FOp := fun_mk (st := cF 11) lOp cOp kOp
  have FCa := fun_mk (st := cF 12) lCa cCa kCa
  have bW := FW.binds (ps := ["value"]) fun _ _ _ _ _ _ us hl => match us, hl with | [_], _ => rfl
  have bAL := FAL.binds (ps := ["value", "low"]) fun _ _ _ _ _ _ us hl => match us, hl with | [_, _], _ => rfl
  have bB := FB.binds (ps := ["value", "low", "high"]) fun _ _ _ _ _ _ us hl => match us, hl with | [_, _, _], _ => rfl
  have bFf := FFf.binds (ps := ["image"]) fun _ _ _ _ _ _ us hl => match us, hl with | [_], _ => rfl
  have bFe := FFe.binds (ps := ["pages"]) fun _ _ _ _ _ _ us hl => match us, hl with | [_], _ => rfl
  have bBk := FBk.binds (ps := ["entry"]) fun _ _ _ _ _ _ us hl => match us, hl with | [_], _ => rfl
  have bPg := FPg.binds (ps := ["page"]) fun _ _ _ _ _ _ us hl => match us, hl with | [_], _ => rfl
  have bT := FT.binds (ps := ["script"]) fun _ _ _ _ _ _ us hl => match us, hl with | [_], _ => rfl
  have bA := FA.binds (ps := ["tape", "k"]) fun _ _ _ _ _ _ us hl => match us, hl with | [_, _], _ => rfl
  have bPs := FPs.binds (ps := ["number", "pick"]) fun _ _ _ _ _ _ us hl => match us, hl with | [_, _], _ => rfl
  have bSp := FSp.binds (ps := ["image", "kind", "block"]) fun _ _ _ _ _ _ us hl => match us, hl with | [_, _, _], _ => rfl
  have bTo := FTo.binds (ps := ["image"]) fun _ _ _ _ _ _ us hl => match us, hl with | [_], _ => rfl
  have bTz := FTz.binds (ps := ["blocks"]) fun _ _ _ _ _ _ us hl => match us, hl with | [_], _ => rfl
  have bI := FI.binds (ps := ["self", "blocks"]) fun _ _ _ _ _ _ us hl => match us, hl with | [_, _], _ => rfl
  have bRd := FRd.binds (ps := ["self", "block", "page"]) fun _ _ _ _ _ _ us hl => match us, hl with | [_, _, _], _ => rfl
  have bEr := FEr.binds (ps := ["self", "block"]) fun _ _ _ _ _ _ us hl => match us, hl with | [_, _], _ => rfl
  have bWe := FWe.binds (ps := ["self", "block"]) fun _ _ _ _ _ _ us hl => match us, hl with | [_, _], _ => rfl
  have bIg := FIg.binds (ps := ["self"]) fun _ _ _ _ _ _ us hl => match us, hl with | [_], _ => rfl
  have bKb := FKb.binds (ps := ["self", "block"]) fun _ _ _ _ _ _ us hl => match us, hl with | [_, _], _ => rfl
  have bKp := FKp.binds (ps := ["self", "block", "page"]) fun _ _ _ _ _ _ us hl => match us, hl with | [_, _, _], _ => rfl
  have bPo := FPo.binds (ps := ["self"]) fun _ _ _ _ _ _ us hl => match us, hl with | [_], _ => rfl
  have bOp := FOp.binds (ps := ["self", "block", "page", "content"]) fun _ _ _ _ _ _ us hl => match us, hl with | [_, _, _, _], _ => rfl
  have bCa := FCa.binds (ps := ["self", "block", "page", "content"]) fun _ _ _ _ _ _ us hl => match us, hl with | [_, _, _, _], _ => rfl
  have mI : Meth K C "__init__" fI := ⟨aI, iI, kI⟩
  have mRd : Meth K C "read" fRd := ⟨aRd, iRd, kRd⟩
  have mEr : Meth K C "erase" fEr := ⟨aEr, iEr, kEr⟩
  have mWe : Meth K C "wear" fWe := ⟨aWe, iWe, kWe⟩
  have mIg : Meth K C "image" fIg := ⟨aIg, iIg, kIg⟩
  have mKb : Meth K C "_check_block" fKb := ⟨aKb, iKb, kKb⟩
  have mKp : Meth K C "_check_page" fKp := ⟨aKp, iKp, kKp⟩
  have mPo : Meth K C "_check_power" fPo := ⟨aPo, iPo, kPo⟩
  have mOp : Meth K C "_operate" fOp := ⟨aOp, iOp, kOp⟩
  have mCa : Meth K C "_carry_out" fCa := ⟨aCa, iCa, kCa⟩
  refine ⟨PySem.W.fnOf "law" "law" (defArgs sLaw) (defBody sLaw) (defScope sLaw) .none kVL dcL pmL anL cdL ctL, fun s v => .of_eq rfl, fun base _ _ => ?_⟩
  have GB : GBet l.prog w K mg base fB _ := ⟨ok_between FB D FW bW, bB, kB⟩
  have GKb := ok_ckB FKb T GB
  have GKp := ok_ckP FKp T GB GKb bKb mKb
  have GPo := ok_pow (P := l.prog) (wd := w) (base := base) FPo T
  have GCa := ok_carry (P := l.prog) (wd := w) (base := base) FCa T
  have GOp := ok_oper FOp T GPo bPo mPo GCa bCa mCa
  have GFe := ok_first (P := l.prog) (wd := w) (base := base) FFe T
  have GRd := ok_read FRd T GKp bKp mKp GPo bPo mPo
  have GWe := ok_wear FWe T GKb bKb mKb
  have GEr := ok_erase FEr T GKb bKb mKb GOp bOp mOp
  have GIg := ok_image (P := l.prog) (wd := w) (base := base) FIg T
  have GI := ok_init FI T GB
  have Y : FX mg := ⟨PySem.W.mg_none_of X G z_str, PySem.W.mg_none_of X G z_all, ⟨_, PySem.W.mg_of X G gTORN⟩⟩
  have IT : InsT K C := ⟨j1, e5, e6, j4, j5⟩
  have GAL := ok_atLeast (P := l.prog) (wd := w) (base := base) FAL D FW bW
  have GPg := ok_isPage (P := l.prog) (wd := w) (base := base) FPg T Y
  have GF2 := ok_first2 (P := l.prog) (wd := w) (base := base) FFe T
  have GBk := ok_isBlock (P := l.prog) (wd := w) (base := base) FBk T Y GAL bAL kAL (PySem.W.mg_of X G aAL) GPg bPg kPg (PySem.W.mg_of X G aPg) GF2 bFe kFe (PySem.W.mg_of X G aFe)
  have M : Mk K C fI := ⟨mk, aI, iI, kc⟩
  have GFf := ok_from FFf T Y M GI bI GBk bBk kBk (PySem.W.mg_of X G aBk)
  exact ok_law FL T IT ⟨ok_tape FT B, bT, kT, PySem.W.mg_of X G aT⟩ ⟨ok_at FA B, bA, kA, PySem.W.mg_of X G aA⟩
    ⟨ok_pages FPs B, bPs, kPs, PySem.W.mg_of X G aPs⟩ ⟨ok_spoil FSp T, bSp, kSp, PySem.W.mg_of X G aSp⟩
    ⟨ok_told FTo T XC GFf bFf kFf (PySem.W.mg_of X G aFf), bTo, kTo, PySem.W.mg_of X G aTo⟩ ⟨ok_told_size FTz T XC M GI bI, bTz, kTz, PySem.W.mg_of X G aTz⟩
    GIg bIg mIg GEr bEr mEr GWe bWe mWe GRd bRd mRd
/-- the law row's walk: at most 63 items -/
theorem walk_law {l : PySem.W.OpenLaw} {q : Program} {loose : List Str} {XP : (Str → Option Value) → Heap → Prop} {YP : World → Heap → Prop} {d : DefRec} {K : Params → PySem.W.Frag} (hn : l.most = some 63) (hdf : d.params.defaults = [])
    (hY : ∀ (w : World) (h : Heap), YP w h → (K w.params).In h)
    (F : ∀ (w : World) (mg : Str → Option Value) (fa : Addr) (h : Heap), (K w.params).In h → h.Ns mainGlobals mg → mg d.name = some (.ref fa) →
      ∃ fd : FuncData, (∀ (s : Shared) (u : Value), BindsTo s fd ⟨[u], []⟩ [("script", u)]) ∧ ∀ base : Heap, (K w.params).In base → base.Ns mainGlobals mg → FnOk l.prog w (K w.params) mg base CX0 7 fa fd ["script"] (spLaw (K w.params))) :
    PySem.W.WalkO q loose XP YP l.row.toRowW d [] (fun f vs => PySem.call f vs) :=
  L2.walk_of (n := 63) (k := 7) (x := "script") (CX := fun _ => CX0) (sp := fun w => spLaw (K w.params)) hn (by decide) hdf ⟨rfl, by decide, by decide⟩ hY F (fun _ _ a ns hl _ hS => ⟨a, ns, rfl, hS, hl, fun _ => rfl⟩) fun _ _ _ _ _ z => z
end Sg

set_option Elab.async false
set_option linter.all false
set_option maxRecDepth 100000
set_option maxHeartbeats 8000000
open PySem PySem.W PyProof.Rows
set_option maxRecDepth 100000 in
set_option maxHeartbeats 0 in
theorem PySem.Challenge.cw_spindlegate_k03_flash_from_image_holds : PySem.Challenge.rw_spindlegate_k03_flash_from_image.Holds := by
  w_on; o_law; k_head; (case hw => w_witness2)
  k_fill
  refine Sg.walk_law (l := PySem.Challenge.rw_spindlegate_k03_flash_from_image) rfl rfl (fun w h Y => PySem.W.kIn_of Y) ?F
  case F =>
    intro w mg fa h KX G hmg
    refine' Sg.all_mk KX G hmg ?aC ?aN ?aP ?aS ?aW ?lW ?cW ?kW ?aAL ?lAL ?cAL ?kAL ?aB ?lB ?cB ?kB ?aFf ?lFf ?cFf ?kFf ?aFe ?lFe ?cFe ?kFe ?aBk ?lBk ?cBk ?kBk ?aPg ?lPg ?cPg ?kPg ?aT ?lT ?cT ?kT ?aA ?lA ?cA ?kA ?aPs ?lPs ?cPs ?kPs ?aSp ?lSp ?cSp ?kSp ?aTo ?lTo ?cTo ?kTo ?aTz ?lTz ?cTz ?kTz ?aL ?lL ?cL ?kL ?aI ?iI ?lI ?cI ?kI ?aRd ?iRd ?lRd ?cRd ?kRd ?aEr ?iEr ?lEr ?cEr ?kEr ?aWe ?iWe ?lWe ?cWe ?kWe ?aIg ?iIg ?lIg ?cIg ?kIg ?aKb ?iKb ?lKb ?cKb ?kKb ?aKp ?iKp ?lKp ?cKp ?kKp ?aPo ?iPo ?lPo ?cPo ?kPo ?aOp ?iOp ?lOp ?cOp ?kOp ?aCa ?iCa ?lCa ?cCa ?kCa ?pg ?hdC ?po ?sa ?mk ?kc ?n1 ?n2 ?n3 ?n4 ?n5 ?n6 ?xNe ?kNe ?bNe ?tNe ?sNe ?xPe ?kPe ?bPe ?tPe ?sPe ?iSe ?bSe ?tSe ?e1 ?e2 ?e3 ?e4 ?e5 ?e6 ?e7 ?j1 ?j4 ?j5 ?gTORN ?gPAGES ?gMIN_BLOCKS ?gMAX_BLOCKS ?z_isinstance ?z_int ?z_bool ?z_range ?z_len ?z_abs ?z_list ?z_tuple ?z_str ?z_all
    (case aC => k_is)
    (case aN => k_is)
    (case aP => k_is)
    (case aS => k_is)
    (case aW => k_is)
    (case lW => k_is)
    (case cW => k_is)
    (case kW => k_is)
    (case aAL => k_is)
    (case lAL => k_is)
    (case cAL => k_is)
    (case kAL => k_is)
    (case aB => k_is)
    (case lB => k_is)
    (case cB => k_is)
    (case kB => k_is)
    (case aFf => k_is)
    (case lFf => k_is)
    (case cFf => k_is)
    (case kFf => k_is)
    (case aFe => k_is)
    (case lFe => k_is)
    (case cFe => k_is)
    (case kFe => k_is)
    (case aBk => k_is)
    (case lBk => k_is)
    (case cBk => k_is)
    (case kBk => k_is)
    (case aPg => k_is)
    (case lPg => k_is)
    (case cPg => k_is)
    (case kPg => k_is)
    (case aT => k_is)
    (case lT => k_is)
    (case cT => k_is)
    (case kT => k_is)
    (case aA => k_is)
    (case lA => k_is)
    (case cA => k_is)
    (case kA => k_is)
    (case aPs => k_is)
    (case lPs => k_is)
    (case cPs => k_is)
    (case kPs => k_is)
    (case aSp => k_is)
    (case lSp => k_is)
    (case cSp => k_is)
    (case kSp => k_is)
    (case aTo => k_is)
    (case lTo => k_is)
    (case cTo => k_is)
    (case kTo => k_is)
    (case aTz => k_is)
    (case lTz => k_is)
    (case cTz => k_is)
    (case kTz => k_is)
    (case aL => k_is)
    (case lL => k_is)
    (case cL => k_is)
    (case kL => k_is)
    (case aI => k_is)
    (case iI => k_is)
    (case lI => k_is)
    (case cI => k_is)
    (case kI => k_is)
    (case aRd => k_is)
    (case iRd => k_is)
    (case lRd => k_is)
    (case cRd => k_is)
    (case kRd => k_is)
    (case aEr => k_is)
    (case iEr => k_is)
    (case lEr => k_is)
    (case cEr => k_is)
    (case kEr => k_is)
    (case aWe => k_is)
    (case iWe => k_is)
    (case lWe => k_is)
    (case cWe => k_is)
    (case kWe => k_is)
    (case aIg => k_is)
    (case iIg => k_is)
    (case lIg => k_is)
    (case cIg => k_is)
    (case kIg => k_is)
    (case aKb => k_is)
    (case iKb => k_is)
    (case lKb => k_is)
    (case cKb => k_is)
    (case kKb => k_is)
    (case aKp => k_is)
    (case iKp => k_is)
    (case lKp => k_is)
    (case cKp => k_is)
    (case kKp => k_is)
    (case aPo => k_is)
    (case iPo => k_is)
    (case lPo => k_is)
    (case cPo => k_is)
    (case kPo => k_is)
    (case aOp => k_is)
    (case iOp => k_is)
    (case lOp => k_is)
    (case cOp => k_is)
    (case kOp => k_is)
    (case aCa => k_is)
    (case iCa => k_is)
    (case lCa => k_is)
    (case cCa => k_is)
    (case kCa => k_is)
    (case pg => k_is)
    (case hdC => k_is)
    (case po => k_is)
    (case sa => k_is)
    (case mk => k_is)
    (case kc => k_is)
    (case n1 => k_is)
    (case n2 => k_is)
    (case n3 => k_is)
    (case n4 => k_is)
    (case n5 => k_is)
    (case n6 => k_is)
    (case xNe => k_exc)
    (case kNe => k_is)
    (case bNe => k_is)
    (case tNe => k_is)
    (case sNe => first | rfl | k_is)
    (case xPe => k_exc)
    (case kPe => k_is)
    (case bPe => k_is)
    (case tPe => k_is)
    (case sPe => first | rfl | k_is)
    (case iSe => k_is)
    (case bSe => k_is)
    (case tSe => k_is)
    (case e1 => k_is)
    (case e2 => k_is)
    (case e3 => k_is)
    (case e4 => k_is)
    (case e5 => first | rfl | k_is)
    (case e6 => first | rfl | k_is)
    (case e7 => first | rfl | k_is)
    (case j1 => k_is)
    (case j4 => first | rfl | k_is)
    (case j5 => first | rfl | k_is)
    (case gTORN => k_is)
    (case gPAGES => k_is)
    (case gMIN_BLOCKS => k_is)
    (case gMAX_BLOCKS => k_is)
    (case z_isinstance => k_is)
    (case z_int => k_is)
    (case z_bool => k_is)
    (case z_range => k_is)
    (case z_len => k_is)
    (case z_abs => k_is)
    (case z_list => k_is)
    (case z_tuple => k_is)
    (case z_str => k_is)
    (case z_all => k_is)

