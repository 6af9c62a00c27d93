import PyProof.Rows.All
import Wide.All
import OpenK.AllK
import Wide.FinOn
import HandS.Base
import HandS.Call
import HandS.List
import HandS.Comp
import HandS.Ends
import HandS.Dict
import HandS.Iter
import HandS.Text
import HandS.Words
import HandS.WordsList
import HandS.Steps
import HandS.Evl
import HandS.Exc
import HandS.TryOnly
import HandS.ExcOwn
import HandS.WordsExc
import HandS.IsInst
import HandS.ExcIs
import HandS.Deep
import HandS.More
import HandS.WrittenGet
import KE.KIndexOf
import HandS.Zip
import HandS.Star
import KE.DataMinMax
import KE.SortData
import HandS.Walk
import HandS.SortInts
import HandS.SetKeys
import PySem.Challenge.RW_spindlegate_k07_log_after_cuts
set_option Elab.async false
set_option linter.all false
set_option maxRecDepth 100000
set_option maxHeartbeats 4000000
/-! General lemmas: readings of expressions, small heaps, lists. -/
namespace Sg
open PySem PySem.Spec PyProof.Rows L2
section
variable {σ : L2.St} {H : Hp} {ta tb te : TE} {i j : Int} {K : PySem.W.Frag} {x y z : V}
theorem v0 {g : Int → Int → V} (ha : Val ta σ H (.int i)) (hb : Val tb σ H (.int j)) : Val (tOp (rI0 g) ta tb) σ H (g i j) := val_op ha hb fun _ q => ⟨i, j, rfl, rfl, q⟩
theorem vc {C : Int → Int → Prop} {g : Int → Int → V} (ha : Val ta σ H (.int i)) (hb : Val tb σ H (.int j)) (hc : C i j) : Val (tOp (rI C g) ta tb) σ H (g i j) := val_op ha hb fun _ q => ⟨i, j, rfl, rfl, hc, q⟩
theorem vEq (ha : Val ta σ H x) (hb : Val tb σ H y) (hs : scal x y = true) : Val (tOp rEq ta tb) σ H (.bl (decide (x = y))) := val_op ha hb fun _ q => ⟨hs, q⟩
theorem vNe (ha : Val ta σ H x) (hb : Val tb σ H y) (hs : scal x y = true) : Val (tOp rNe ta tb) σ H (.bl (!decide (x = y))) := val_op ha hb fun _ q => ⟨hs, q⟩
theorem vIx {p : Addr} {xs : List V} {n : Nat} (ha : Val ta σ H (.ref p)) (hb : Val tb σ H (.int (n : Int))) (hp : SqL K H p xs) (hn : xs[n]? = some z) : Val (tOp (rIxL K) ta tb) σ H z :=
  val_op ha hb fun _ q => ⟨p, xs, _, z, rfl, rfl, hp, atI_nat hn, q⟩
theorem vIs {v w : V} (h : Val te σ H v) (e : v = w) : Val te σ H w := e ▸ h
/-- a built-in's call of one argument -/
theorem vCB1 {r : List V → Hp → VK → Prop} (ha : Val ta σ H x) (hr : ∀ Q : VK, Q z H → r [x] H Q) : Val (tCB r (tCons ta tNil)) σ H z := fun Q q => ha _ (hr Q q)
theorem vCB2 {r : List V → Hp → VK → Prop} (ha : Val ta σ H x) (hb : Val tb σ H y) (hr : ∀ Q : VK, Q z H → r [x, y] H Q) : Val (tCB r (tCons ta (tCons tb tNil))) σ H z := fun Q q => ha _ (hb _ (hr Q q))
theorem aTest {b : Bool} (h : Val te σ H (.bl b)) : Ans (tTest te) σ H b := fun Q q => h _ ⟨b, rfl, q⟩
end
theorem map_get {α β : Type} {f : α → β} {l : List α} {i : Nat} {y : β} (h : (l.map f)[i]? = some y) : ∃ z, l[i]? = some z ∧ y = f z := by
  rw [List.getElem?_map] at h
  cases e : l[i]? with
  | none =>
    rw [e] at h
    cases h
  | some z =>
    rw [e] at h
    exact ⟨z, rfl, (Option.some.inj h).symm⟩
theorem get_map {α β : Type} {f : α → β} {l : List α} {i : Nat} {z : α} (h : l[i]? = some z) : (l.map f)[i]? = some (f z) := by rw [List.getElem?_map, h]; rfl
theorem upd_two {H : Hp} {a : Addr} {o u : HO} : upd (upd H a o) a u = upd H a u := upd_upd
theorem same_new {H : Hp} {p : Addr} {o : HO} (h : H p = Option.none) : Same H (upd H p o) := fun b u e => by
  rw [upd_ne (ne_of_none e h)]
  exact e
end Sg

set_option Elab.async false
set_option linter.all false
set_option maxRecDepth 100000
set_option maxHeartbeats 4000000
namespace Sg
open PySem PySem.Spec PyProof.Rows L2
/-! ### rules of our own -/
section
variable {X : Cx}
/-- C(), an own exception without an __init__ of its own -/
theorem pmk_own0 {C : Addr} {bmB : List Value} {B newId initId : String} {x : Str} {p pos : Pos} (F : ExcBaseFacts B newId initId bmB) (q : PySem.W.excIn X.K C bmB newId = true) (gC : X.mg x = some (.ref C))
    (kC : PySem.W.keepIn X.K (.ref C) = true) (r : Raises X (.ref C)) (hg : Gl X x) (hdb : (x == ("__debug__" : Str)) = false := by decide) :
    PMk X (.Call (.Name x p) [] [] pos) (fun _ H Q => Q (.ref C) none H) := by
  intro pins s σ H Q I h
  refine wpAny_Call_Name_kw (ld_glob I hg gC ?_ hdb)
  refine PySem.W.callWith_K0 I.kIn kC ?_
  obtain ⟨bm, N, nm, qn, bs, hdct, sn, sub, ab, col, dd, k0, k1, k2, k3, k5, mN, hC, hN, hni, T⟩ := exc_obj I.kIn q
  exact wpAny_call_exc_subT F T hC hN hni (fun h' e hm => mk_of I hm r h (I.hok.gone hm.new)) (Nat.zero_le _)
/-- o[i] of a list, by values, a place in bounds from the left -/
def rGetL (K : PySem.W.Frag) : V → V → Hp → VK → Prop := fun o i H Q => ∃ p xs n v, o = .ref p ∧ i = .int ((n : Nat) : Int) ∧ SqL K H p xs ∧ xs[n]? = some v ∧ Q v H
theorem get_list : PGet X (rGetL X.K) := by
  intro pins s σ H o i ov iv Q I ro ri h
  obtain ⟨p, xs, n, v, rfl, rfl, hq, he, q⟩ := h
  cases ro
  obtain ⟨t, rfl⟩ := ri
  obtain ⟨its, r, pl, hz⟩ := I.list hq
  obtain ⟨w, ew, rw'⟩ := r.get he
  have hl := r.length
  have hn := line63
  have hb := (List.getElem?_eq_some_iff.mp he).1
  exact wpAny_getItem_list pl.isList (by omega) (by omega) (by simpa using ew) ⟨v, H, I, rw', q⟩
/-- l.count(y): how many are equal, data of any depth -/
def rCountD (K : PySem.W.Frag) : V → List V → Hp → VK → Prop := fun x xs H Q => ∃ (a : Addr) (y : V) (d : PyData) (ds : List PyData), x = V.ref a ∧ xs = [y] ∧ Dp K H (V.ref a) (.list ds) ∧ Dp K H y d ∧
  SeqAt.shaped (.list ds) = true ∧ SeqAt.shaped d = true ∧ Q (.int (ds.countP (fun z => PyData.eqv z d) : Nat)) H
theorem mt_countD (hu : X.A.units + 65 < cLine) : MtR X "list.count" (rCountD X.K) := by
  intro pins s σ H x xs v us Q I rx rxs h
  obtain ⟨a, y, d, ds, rfl, rfl, hl, hy, sl, sd, q⟩ := h
  cases rx
  cases rxs with
  | cons ry rt =>
    rename_i uy ut
    cases rt
    obtain ⟨bs, r1⟩ := Dp.reads I d y uy hy ry
    have hxs : PyData.canLayAll0 ds = true := SeqAt.canLay_of_shaped sl
    have hroom : X.A.units + 1 + min (PyData.depthAll ds) d.depth < cLine := room_in_shaped sd hu
    cases hl with
    | lst hs ha =>
      obtain ⟨its, rv, ⟨⟨cls, dd, data, sls⟩, n, ho, hc, hdn, hdt⟩, hlen⟩ := I.list hs
      simp only at hc hdt
      subst hc hdt
      obtain ⟨as, h4⟩ := Dp.readsAll I ds _ its ha rv
      have hmap : its.map (SeqAt.readOf s.heap) = ds := SeqAt.readsAll_map ds its as hxs h4
      refine call_meets PySem.F.slot_list_count ⟨_, ho, rfl⟩ PySem.F.entry_list_count (PySem.F.args_list_count_2 _ _)
        (SeqAt.list_countAt a its.toArray n dd sls uy (fun u => PyData.eqv (SeqAt.readOf s.heap u) d)) ⟨ho, SeqAt.items_eqAt (vs := its.toArray) (show ReadsAll s.heap its.toArray.toList ds as from h4) r1 hxs (SeqAt.canLay_of_shaped sd) hroom, ?_⟩
      have ec : its.toArray.toList.countP (fun u => PyData.eqv (SeqAt.readOf s.heap u) d) = ds.countP (fun z => PyData.eqv z d) := by
        rw [← hmap, List.countP_map]
        rfl
      refine ⟨.int (ds.countP (fun z => PyData.eqv z d) : Nat), H, I.tok _, ⟨s.toks, ?_⟩, q⟩
      show Value.int ((its.toArray.toList.countP (fun u => PyData.eqv (SeqAt.readOf s.heap u) d) : Nat) : Int) s.toks = _
      rw [ec]
/-- isinstance(e, c), e the exception that the suite holds, whatever its class is -/
def rIsX (K : PySem.W.Frag) (a : Addr) (cls : Value) (d : Option Addr) : List V → Hp → VK → Prop := fun xs H Q => ∃ (D : Addr) (c : V) (cv : Value) (b : Bool), cls = .ref D ∧ d = none ∧ ExcC K D ∧ xs = [.ref a, c] ∧ (∀ u, RelV c u → u = cv) ∧ PySem.W.kitOne K (.ref D) cv = some b ∧ Q (.bl b) H
theorem call_isX {a : Addr} {oe : Obj} {cls : Value} {d : Option Addr} {pn : List (Addr × Obj)} (hz : Zc cls d oe) (hf : ∃ vs, oe.data = .fields vs) : CallR (X.suite a ((a, oe) :: pn)) (.builtin "isinstance") (rIsX X.K a cls d) := by
  intro pins s σ H xs us Q I r h
  obtain ⟨D, c, cv, b, rfl, rfl, C, rfl, hcv, e, q⟩ := h
  exact call_isE C hz hf pins s σ H _ us Q I r ⟨c, cv, b, rfl, hcv, e, q⟩
end
/-- an exception of a subclass is what the clause names -/
theorem exm_sub {K : PySem.W.Frag} {S T : Addr} (h1 : PySem.W.subIn K (.ref T) (.type "BaseException") = some true) (h2 : PySem.W.isClsIn K T = true) (h3 : PySem.W.typeIn K (.ref T) = some (.type "type")) (h4 : PySem.W.subIn K (.ref S) (.ref T) = some true) :
    PySem.W.exmOne K (.ref S) (.ref T) = some true := by
  have e1 : (PySem.W.subIn K (.ref T) (.type "BaseException") == some true) = true := by rw [h1] <;> rfl
  have e2 : ((PySem.W.clsIn K T).isSome && PySem.W.typeIn K (.ref T) == some (.type "type")) = true := by
    have h2' : (PySem.W.clsIn K T).isSome = true := h2
    rw [h2', h3] <;> rfl
  show (if (PySem.W.subIn K (.ref T) (.type "BaseException") == some true) = true then (if ((PySem.W.clsIn K T).isSome && PySem.W.typeIn K (.ref T) == some (.type "type")) = true then PySem.W.subIn K (.ref S) (.ref T) else none) else none) = some true
  rw [if_pos e1, if_pos e2]
  exact h4
end Sg

set_option Elab.async false
set_option linter.all false
set_option maxRecDepth 100000
set_option maxHeartbeats 4000000
namespace Sg
open PySem PySem.Spec PyProof.Rows L2
/-! ### pages, rows of pages, grids of rows -/
def flatC : V → Bool
  | .non => true
  | .bl _ => true
  | .int _ => true
  | .str x => PyData.strOk x
  | _ => false
def dFlat : V → PyData
  | .bl b => .bool b
  | .int i => .int i
  | .str x => .str x
  | _ => .none
theorem dFlat_dp {K : PySem.W.Frag} {H : Hp} : ∀ {v : V}, flatC v = true → Dp K H v (dFlat v) ∧ (dFlat v).canLay0 = true ∧ (dFlat v).depth = 0
  | .non, _ => ⟨.non, by simp [dFlat, PyData.canLay0], by simp [dFlat, PyData.depth]⟩
  | .bl b, _ => ⟨.bl b, by simp [dFlat, PyData.canLay0], by simp [dFlat, PyData.depth]⟩
  | .int i, _ => ⟨.int i, by simp [dFlat, PyData.canLay0], by simp [dFlat, PyData.depth]⟩
  | .str x, h => ⟨.str x, by simpa [dFlat, PyData.canLay0, flatC] using h, by simp [dFlat, PyData.depth]⟩
  | .byt _, h => by simp [flatC] at h
  | .flt _, h => by simp [flatC] at h
  | .ref _, h => by simp [flatC] at h
  | .ty _, h => by simp [flatC] at h
theorem flats_dp {K : PySem.W.Frag} {H : Hp} : ∀ {vs : List V}, vs.all flatC = true → DpAll K H vs (vs.map dFlat) ∧ PyData.canLayAll0 (vs.map dFlat) = true ∧ PyData.depthAll (vs.map dFlat) = 0
  | [], _ => ⟨.nil, by simp [PyData.canLayAll0], by simp [PyData.depthAll]⟩
  | v :: vs, h => by
    rw [List.all_cons, Bool.and_eq_true] at h
    obtain ⟨a1, a2, a3⟩ := dFlat_dp (K := K) (H := H) h.1
    obtain ⟨b1, b2, b3⟩ := flats_dp (K := K) (H := H) h.2
    refine ⟨.cons a1 b1, ?_, ?_⟩
    · simp [PyData.canLayAll0, a2, b2]
    · simp only [List.map_cons, PyData.depthAll]; omega
def torn : V := .str "torn"
/-- what a page holds that is not erased -/
def PgN (H : Hp) (v : V) : Prop := v = torn ∨ ∃ t xs, v = .ref t ∧ H t = some (.tup xs) ∧ xs.all flatC = true
theorem PgN.ne {H : Hp} {v : V} (h : PgN H v) : v ≠ .non := by
  rcases h with rfl | ⟨t, xs, rfl, _⟩ <;> (intro e; cases e)
/-- tuples stay -/
def Tups (H H' : Hp) : Prop := ∀ t xs, H t = some (.tup xs) → H' t = some (.tup xs)
theorem same_tups {H H' : Hp} (s : Same H H') : Tups H H' := fun t xs h => s _ _ h
theorem Tups.trans {H H1 H2 : Hp} (a : Tups H H1) (b : Tups H1 H2) : Tups H H2 := fun t xs h => b t xs (a t xs h)
theorem Tups.lst {H : Hp} {a : Addr} {xs : List V} {o : HO} (h : H a = some (.lst xs)) : Tups H (upd H a o) := fun t ys e => by
  rw [upd_ne (ne_of e h (by intro z; cases z))]; exact e
theorem Tups.ins {H : Hp} {a C dx : Addr} {fs : List (Str × V)} {o : HO} (h : H a = some (.ins C dx fs)) : Tups H (upd H a o) := fun t ys e => by
  rw [upd_ne (ne_of e h (by intro z; cases z))]; exact e
theorem Tups.new {H : Hp} {a : Addr} {o : HO} (h : H a = Option.none) : Tups H (upd H a o) := fun t xs e => same_new h _ _ e
theorem PgN.mono {H H' : Hp} {v : V} (s : Tups H H') (h : PgN H v) : PgN H' v := by
  rcases h with rfl | ⟨t, xs, rfl, ht, hx⟩
  · exact .inl rfl
  · exact .inr ⟨t, xs, rfl, s _ _ ht, hx⟩
/-- a page's data -/
theorem PgN.dp {K : PySem.W.Frag} {H : Hp} {v : V} (h : PgN H v) : ∃ d, Dp K H v d ∧ d.canLay0 = true ∧ d.depth ≤ 1 ∧ PyData.eqv d .none = false := by
  rcases h with rfl | ⟨t, xs, rfl, ht, hx⟩
  · exact ⟨.str "torn", .str _, by simp only [PyData.canLay0]; decide +kernel, by simp [PyData.depth], by simp [PyData.eqv]⟩
  · obtain ⟨a1, a2, a3⟩ := flats_dp (K := K) (H := H) hx
    exact ⟨.tuple (xs.map dFlat), .tup (SqT.of ht) a1, by simpa [PyData.canLay0] using a2, by simp [PyData.depth, a3], by simp [PyData.eqv]⟩
/-- the pages of a block: what is programmed, then erased ones -/
def row (vs : List V) : List V := vs ++ List.replicate (8 - vs.length) V.non
theorem row_len {vs : List V} (h : vs.length ≤ 8) : (row vs).length = 8 := by
  unfold row; rw [List.length_append, List.length_replicate]; omega
theorem row_get {vs : List V} {j : Nat} {v : V} (h : vs[j]? = some v) : (row vs)[j]? = some v := by
  unfold row
  rw [List.getElem?_append_left (List.getElem?_eq_some_iff.mp h).1]; exact h
theorem row_non {vs : List V} {j : Nat} (h : vs.length ≤ j) (h8 : j < 8) : (row vs)[j]? = some V.non := by
  unfold row
  rw [List.getElem?_append_right h, List.getElem?_replicate, if_pos (by omega)]
theorem row_set {vs : List V} {v : V} (h : vs.length < 8) : (row vs).set vs.length v = row (vs ++ [v]) := by
  unfold row
  rw [List.set_append_right _ _ (Nat.le_refl _), Nat.sub_self, List.length_append, List.append_assoc]
  congr 1
  obtain ⟨m, hm⟩ : ∃ m, 8 - vs.length = m + 1 := ⟨7 - vs.length, by omega⟩
  have h2 : 8 - (vs.length + [v].length) = m := by simp only [List.length_cons, List.length_nil]; omega
  rw [hm, h2, List.replicate_succ]
  rfl
def PgsN (H : Hp) (vs : List V) : Prop := vs.length ≤ 8 ∧ ∀ v ∈ vs, PgN H v
theorem PgsN.mono {H H' : Hp} {vs : List V} (s : Tups H H') (h : PgsN H vs) : PgsN H' vs := ⟨h.1, fun v hv => (h.2 v hv).mono s⟩
theorem pgs_dp {K : PySem.W.Frag} {H : Hp} : ∀ {vs : List V}, (∀ v ∈ vs, PgN H v) → ∃ ds, DpAll K H vs ds ∧ PyData.canLayAll0 ds = true ∧ PyData.depthAll ds ≤ 1 ∧ ds.countP (fun z => PyData.eqv z .none) = 0
  | [], _ => ⟨[], .nil, by simp [PyData.canLayAll0], by simp [PyData.depthAll], rfl⟩
  | v :: vs, h => by
    obtain ⟨d, a1, a2, a3, a4⟩ := (h v List.mem_cons_self).dp (K := K)
    obtain ⟨ds, b1, b2, b3, b4⟩ := pgs_dp (K := K) (fun v hv => h v (List.mem_cons_of_mem _ hv))
    refine ⟨d :: ds, .cons a1 b1, by simp [PyData.canLayAll0, a2, b2], ?_, ?_⟩
    · simp only [PyData.depthAll]; omega
    · rw [List.countP_cons, b4, a4]; rfl
theorem nons_dp {K : PySem.W.Frag} {H : Hp} : ∀ n : Nat, DpAll K H (List.replicate n V.non) (List.replicate n PyData.none) ∧ PyData.canLayAll0 (List.replicate n PyData.none) = true ∧ PyData.depthAll (List.replicate n PyData.none) = 0 ∧ (List.replicate n PyData.none).countP (fun z => PyData.eqv z .none) = n
  | 0 => ⟨.nil, by simp [PyData.canLayAll0], by simp [PyData.depthAll], rfl⟩
  | n + 1 => by
    obtain ⟨a, b, c, d⟩ := nons_dp (K := K) (H := H) n
    rw [List.replicate_succ, List.replicate_succ]
    refine ⟨.cons .non a, by simp [PyData.canLayAll0, PyData.canLay0, b], by simp [PyData.depthAll, PyData.depth, c], ?_⟩
    rw [List.countP_cons, d, if_pos (by simp [PyData.eqv])]
theorem dpAll_append {K : PySem.W.Frag} {H : Hp} : ∀ {xs ys : List V} {ds es : List PyData}, DpAll K H xs ds → DpAll K H ys es → DpAll K H (xs ++ ys) (ds ++ es)
  | _, _, _, _, .nil, h => h
  | _, _, _, _, .cons a b, h => .cons a (dpAll_append b h)
theorem canLay_append : ∀ {ds es : List PyData}, PyData.canLayAll0 ds = true → PyData.canLayAll0 es = true → PyData.canLayAll0 (ds ++ es) = true
  | [], _, _, h => h
  | d :: ds, es, h, h' => by
    simp only [PyData.canLayAll0, Bool.and_eq_true] at h
    simp only [List.cons_append, PyData.canLayAll0, Bool.and_eq_true]
    exact ⟨h.1, canLay_append h.2 h'⟩
theorem depth_append : ∀ {ds es : List PyData} {n : Nat}, PyData.depthAll ds ≤ n → PyData.depthAll es ≤ n → PyData.depthAll (ds ++ es) ≤ n
  | [], _, _, _, h => h
  | d :: ds, es, n, h, h' => by
    simp only [PyData.depthAll] at h
    simp only [List.cons_append, PyData.depthAll]
    have := depth_append (ds := ds) (es := es) (n := n) (by omega) h'
    omega
/-- a row's data, and how many of its pages are erased -/
theorem row_dp {K : PySem.W.Frag} {H : Hp} {vs : List V} (h : PgsN H vs) : ∃ ds, DpAll K H (row vs) ds ∧ PyData.canLayAll0 ds = true ∧ PyData.depthAll ds ≤ 1 ∧ ds.countP (fun z => PyData.eqv z .none) = 8 - vs.length := by
  obtain ⟨ds, a, b, c, d⟩ := pgs_dp (K := K) h.2
  obtain ⟨a', b', c', d'⟩ := nons_dp (K := K) (H := H) (8 - vs.length)
  refine ⟨_, dpAll_append a a', canLay_append b b', depth_append c (by omega), ?_⟩
  rw [List.countP_append, d, d']; omega
theorem shaped_of {d : PyData} (h : d.canLay0 = true) (h' : d.depth ≤ 64) : SeqAt.shaped d = true := by
  show (d.canLay0 && decide (d.depth ≤ 64)) = true
  rw [Bool.and_eq_true]; exact ⟨h, decide_eq_true h'⟩
theorem shaped_list {ds : List PyData} (h : PyData.canLayAll0 ds = true) (h' : PyData.depthAll ds ≤ 63) : SeqAt.shaped (.list ds) = true :=
  shaped_of (by simpa [PyData.canLay0] using h) (by simp only [PyData.depth]; omega)
/-! ### grids: a list at c of lists at as, whose pages are those of ps -/
structure Grid (H : Hp) (c : Addr) (as : List Addr) (ps : List (List V)) : Prop where
  ls : H c = some (.lst (as.map V.ref))
  len : as.length = ps.length
  nd : as.Nodup
  nc : c ∉ as
  rows : ∀ (i : Nat) (a : Addr) (vs : List V), as[i]? = some a → ps[i]? = some vs → H a = some (.lst (row vs))
theorem Grid.keep {H H' : Hp} {c : Addr} {as : List Addr} {ps : List (List V)} (g : Grid H c as ps) (hc : ∀ o, H c = some o → H' c = some o) (ha : ∀ a ∈ as, ∀ o, H a = some o → H' a = some o) : Grid H' c as ps :=
  ⟨hc _ g.ls, g.len, g.nd, g.nc, fun i a vs h1 h2 => ha a (List.mem_of_getElem? h1) _ (g.rows i a vs h1 h2)⟩
theorem Grid.same {H H' : Hp} {c : Addr} {as : List Addr} {ps : List (List V)} (g : Grid H c as ps) (s : Same H H') : Grid H' c as ps := g.keep (fun o h => s _ _ h) (fun a _ o h => s _ _ h)
theorem Grid.at {H : Hp} {c : Addr} {as : List Addr} {ps : List (List V)} (g : Grid H c as ps) {i : Nat} {vs : List V} (h : ps[i]? = some vs) : ∃ a, as[i]? = some a ∧ H a = some (.lst (row vs)) := by
  have hi : i < as.length := by rw [g.len]; exact (List.getElem?_eq_some_iff.mp h).1
  exact ⟨as[i], List.getElem?_eq_getElem hi, g.rows i _ vs (List.getElem?_eq_getElem hi) h⟩
theorem get_set_cases {α : Type} {l : List α} {i j : Nat} {x y : α} (h : (l.set i x)[j]? = some y) : (j = i ∧ y = x ∧ i < l.length) ∨ (j ≠ i ∧ l[j]? = some y) := by
  rw [List.getElem?_set] at h
  split at h
  · rename_i e
    split at h
    · rename_i h2
      exact .inl ⟨e.symm, (Option.some.inj h).symm, h2⟩
    · cases h
  · rename_i e
    exact .inr ⟨fun z => e z.symm, h⟩
/-- one row changed -/
theorem Grid.prog {H H' : Hp} {c : Addr} {as : List Addr} {ps : List (List V)} (g : Grid H c as ps) {i : Nat} {a : Addr} {vs : List V} (ha : as[i]? = some a) (h1 : H' a = some (.lst (row vs))) (h2 : ∀ b o, b ≠ a → H b = some o → H' b = some o) : Grid H' c as (ps.set i vs) := by
  refine ⟨h2 _ _ (fun e => g.nc (e ▸ List.mem_of_getElem? ha)) g.ls, by rw [List.length_set]; exact g.len, g.nd, g.nc, fun j b ws hb hw => ?_⟩
  rcases get_set_cases hw with ⟨rfl, rfl, _⟩ | ⟨hj, hw⟩
  · rw [ha] at hb; cases hb; exact h1
  · exact h2 _ _ (fun e => hj (nd_ix g.nd hb (by rw [e]; exact ha))) (g.rows j b ws hb hw)
/-- one row replaced by a new list -/
theorem Grid.swap {H H' : Hp} {c : Addr} {as : List Addr} {ps : List (List V)} (g : Grid H c as ps) {i : Nat} {q : Addr} {vs : List V} (hq : H q = Option.none) (h0 : H' c = some (.lst ((as.set i q).map V.ref))) (h1 : H' q = some (.lst (row vs)))
    (h2 : ∀ b ∈ as, ∀ o, H b = some o → H' b = some o) : Grid H' c (as.set i q) (ps.set i vs) := by
  have hqn : ∀ j (b : Addr), as[j]? = some b → b ≠ q := fun j b hb => by
    have hj : j < ps.length := by rw [← g.len]; exact (List.getElem?_eq_some_iff.mp hb).1
    exact ne_of_none (g.rows j b _ hb (List.getElem?_eq_getElem hj)) hq
  refine ⟨h0, by rw [List.length_set, List.length_set]; exact g.len, ?_, ?_, fun j b ws hb hw => ?_⟩
  · rw [List.nodup_iff_pairwise_ne, List.pairwise_iff_getElem]
    intro j k hj hk hlt
    rw [List.length_set] at hj hk
    rw [List.getElem_set, List.getElem_set]
    split
    · split
      · omega
      · exact (hqn k _ (List.getElem?_eq_getElem hk)).symm
    · split
      · exact hqn j _ (List.getElem?_eq_getElem hj)
      · intro e
        have := nd_ix g.nd (List.getElem?_eq_getElem hj) (by rw [e]; exact List.getElem?_eq_getElem hk)
        omega
  · intro hm
    obtain ⟨j, hj⟩ := List.getElem?_of_mem hm
    rcases get_set_cases hj with ⟨_, e, _⟩ | ⟨_, h⟩
    · exact ne_of_none g.ls hq e
    · exact g.nc (List.mem_of_getElem? h)
  · rcases get_set_cases hw with ⟨rfl, rfl, hl⟩ | ⟨hj, hw⟩
    · rcases get_set_cases hb with ⟨_, rfl, _⟩ | ⟨hne, _⟩
      · exact h1
      · exact absurd rfl hne
    · rcases get_set_cases hb with ⟨e, _, _⟩ | ⟨_, hb⟩
      · exact absurd e hj
      · exact h2 b (List.mem_of_getElem? hb) _ (g.rows j b ws hb hw)
def Pgs (H : Hp) (ps : List (List V)) : Prop := ∀ vs ∈ ps, PgsN H vs
theorem Pgs.mono {H H' : Hp} {ps : List (List V)} (s : Tups H H') (h : Pgs H ps) : Pgs H' ps := fun vs hv => (h vs hv).mono s
theorem Pgs.set {H : Hp} {ps : List (List V)} {i : Nat} {vs : List V} (h : Pgs H ps) (hv : PgsN H vs) : Pgs H (ps.set i vs) := fun ws hw => by
  rcases List.mem_or_eq_of_mem_set hw with a | a
  · exact h ws a
  · rw [a]; exact hv
/-! ### images: a list of tuples (wear, list of pages) -/
def ImgAt (H : Hp) (r : Addr) (ws : List Int) (ps : List (List V)) : Prop := ∃ tr : List Addr, H r = some (.lst (tr.map V.ref)) ∧ tr.length = ps.length ∧
  ∀ (i : Nat) (t : Addr), tr[i]? = some t → ∃ (wv : Int) (c : Addr) (vs : List V), ws[i]? = some wv ∧ ps[i]? = some vs ∧ H t = some (.tup [.int wv, .ref c]) ∧ H c = some (.lst (row vs))
theorem img_dps {K : PySem.W.Frag} {H : Hp} : ∀ {ws : List Int} {ps : List (List V)}, Pgs H ps → ws.length = ps.length → ∃ ds, PyData.canLayAll0 ds = true ∧ PyData.depthAll ds ≤ 3 ∧ ∀ tr : List Addr, tr.length = ps.length →
    (∀ (i : Nat) (t : Addr), tr[i]? = some t → ∃ (wv : Int) (c : Addr) (vs : List V), ws[i]? = some wv ∧ ps[i]? = some vs ∧ H t = some (.tup [.int wv, .ref c]) ∧ H c = some (.lst (row vs))) → DpAll K H (tr.map V.ref) ds
  | _, [], _, _ => ⟨[], by simp [PyData.canLayAll0], by simp [PyData.depthAll], fun tr h _ => by
      cases tr with
      | nil => exact .nil
      | cons t tr => simp at h⟩
  | [], _ :: _, _, h => by simp at h
  | wv :: ws, vs :: ps, hp, hl => by
    obtain ⟨rd, r1, r2, r3, _⟩ := row_dp (K := K) (hp vs List.mem_cons_self)
    obtain ⟨ds, a, b, k⟩ := img_dps (K := K) (H := H) (ws := ws) (ps := ps) (fun u hu => hp u (List.mem_cons_of_mem _ hu)) (by simpa using hl)
    refine ⟨.tuple [.int wv, .list rd] :: ds, ?_, ?_, fun tr h1 h2 => ?_⟩
    · simp [PyData.canLayAll0, PyData.canLay0, r2, a]
    · simp only [PyData.depthAll, PyData.depth]; omega
    · cases tr with
      | nil => simp at h1
      | cons t tr =>
        obtain ⟨wv', c, vs', e1, e2, h3, h4⟩ := h2 0 t rfl
        have e1' : wv = wv' := by simpa using e1
        have e2' : vs = vs' := by simpa using e2
        subst e1' e2'
        refine .cons (.tup (SqT.of h3) (.cons (.int _) (.cons (.lst (SqL.of h4) r1) .nil))) (k tr (by simpa using h1) fun i t ht => ?_)
        obtain ⟨w2, c2, v2, f1, f2, f3, f4⟩ := h2 (i + 1) t (by simpa using ht)
        exact ⟨w2, c2, v2, by simpa using f1, by simpa using f2, f3, f4⟩
theorem img_dp {K : PySem.W.Frag} {H : Hp} {ws : List Int} {ps : List (List V)} (hp : Pgs H ps) (hl : ws.length = ps.length) : ∃ d, SeqAt.shaped d = true ∧ PyData.eqv d d = true ∧ ∀ r, ImgAt H r ws ps → Dp K H (.ref r) d := by
  obtain ⟨ds, a, b, k⟩ := img_dps (K := K) hp hl
  have hs := shaped_list a (by omega)
  refine ⟨.list ds, hs, SeqAt.eqv_refl _ (SeqAt.canLay_of_shaped hs), fun r ⟨tr, h1, h2, h3⟩ => ?_⟩
  exact .lst (SqL.of h1) (k tr h2 h3)
end Sg

set_option Elab.async false
set_option linter.all false
set_option maxRecDepth 100000
set_option maxHeartbeats 4000000
namespace Sg
open PySem PySem.Spec PyProof.Rows L2
def top (i : Nat) : Stmt := PySem.Challenge.pw_spindlegate_k07_log_after_cuts.main.body.getD i (.Pass ⟨0, 0, 0, 0⟩)
abbrev sTape : Stmt := top 36
abbrev sAt : Stmt := top 37
/-! ### the tape -/
def TapeOk (ts : List Int) : Prop := ∀ t ∈ ts, 0 ≤ t ∧ t < 1000
theorem TapeOk.nil : TapeOk [] := fun t h => by cases h
theorem TapeOk.snoc {ts : List Int} {t : Int} (h : TapeOk ts) (h0 : 0 ≤ t) (h1 : t < 1000) : TapeOk (ts ++ [t]) := fun u hu => by
  rcases List.mem_append.mp hu with a | a
  · exact h u a
  · cases List.mem_singleton.mp a
    exact ⟨h0, h1⟩
theorem TapeOk.at {ts : List Int} (h : TapeOk ts) (k : Nat) : 0 ≤ ts.getD k 0 ∧ ts.getD k 0 < 1000 := by
  rw [List.getD_eq_getElem?_getD]
  cases e : ts[k]? with
  | none => exact ⟨by decide, by decide⟩
  | some t => exact h t (List.mem_of_getElem? e)
/-- what is built-in of the names that the law's helpers use -/
structure Blt (mg : Str → Option Value) : Prop where
  range : mg "range" = none
  len : mg "len" = none
  abs : mg "abs" = none
  int : mg "int" = none
def spTape (K : PySem.W.Frag) : Sp := fun vs H Q _ => ∃ (a : Addr) (ns : List Int), vs = [.ref a] ∧ SqL K H a (ns.map V.int) ∧ ns.length ≤ 63 ∧
  ∀ (p : Addr) (ts : List Int), H p = none → TapeOk ts → ts.length ≤ 3780 → Q (.ref p) (upd H p (.lst (ts.map V.int)))
def spAt (K : PySem.W.Frag) : Sp := fun vs H Q _ => ∃ (p : Addr) (ts : List Int) (k : Nat), vs = [.ref p, .int (k : Int)] ∧ SqL K H p (ts.map V.int) ∧ Q (.int (ts.getD k 0)) H
section
variable {P : Program} {w : World} {K : PySem.W.Frag} {mg : Str → Option Value} {base : Heap} {f : Addr} {fd : FuncData}
theorem scTape : FnScope ["script", "tape", "k", "value", "step"] ["script"] (defScope sTape) := ⟨rfl, rfl, rfl, by decide +kernel, rfl, by decide +kernel, by decide +kernel⟩
theorem snocT {H : Hp} {p : Addr} {ts : List Int} {t : Int} : upd (upd H p (.lst (ts.map V.int))) p (.lst (ts.map V.int ++ [V.int t])) = upd H p (.lst ((ts ++ [t]).map V.int)) := by
  rw [upd_upd, List.map_append]; rfl
theorem ok_tape (F : Fun K "_law_tape" "_law_tape" sTape f fd) (B : Blt mg) : FnOk P w K mg base CX0 1 f fd ["script"] (spTape K) := by
  refine F.ok scTape (fun vs H Q E h => ?_) (fun cdv A outer s H vs Q E hr h => ?_)
  · obtain ⟨a, ns, rfl, _⟩ := h
    rfl
  · obtain ⟨a, ns, rfl, hS, hlen, k⟩ := h
    refine ⟨_, pss_cons (ps_set (i := 1) scTape.nd rfl (Or.inl rfl) (pe_lst pa_nil))
      (pss_cons (ps_for PassesOwn.never rfl (pi_range1 (by rfl) B.range (pa_cons (pe_callB call_len_seq (by rfl) B.len PySem.boot_len (pa_cons (pv 0) pa_nil)) pa_nil)) (pg_name (i := 2) scTape.nd rfl (Or.inl rfl))
        (pss_cons (ps_set (i := 3) scTape.nd rfl (Or.inl rfl) (pe_callB call_abs (by rfl) B.abs (by decide +kernel) (pa_cons (pe_callTy call_int1 (by rfl) B.int (by decide +kernel) (pa_cons (pe_ix ix_list (pv 0) (pv 2) (fun _ _ => rfl)) pa_nil)) pa_nil)))
        (pss_one (ps_if (pt_cmpR op_ge (pv 3) (pe_op op_pow pe_int pe_int) (nomark _))
          (pss_one (ps_for PassesOwn.never rfl (pi_range1 (by rfl) B.range (pa_cons pe_int pa_nil)) (pg_name (i := 4) scTape.nd rfl (Or.inl rfl))
            (pss_one (ps_if (pt_cmpR op_gt (pv 3) pe_int (nomark _))
              (pss_cons (ps_expr (pe_bm PySem.F.plainAttrs_list PySem.F.slot_list_append PySem.F.type_list_append mt_append (pv 1) (pa_cons (pe_op op_mod (pv 3) pe_int) pa_nil)))
                (pss_one (ps_set (i := 3) scTape.nd rfl (Or.inl rfl) (pe_op op_fdiv (pv 3) pe_int)))) pss_nil))))
          (pss_one (ps_for PassesOwn.never rfl (pi_range1 (by rfl) B.range (pa_cons pe_int pa_nil)) (pg_name (i := 4) scTape.nd rfl (Or.inl rfl))
            (pss_cons (ps_set (i := 3) scTape.nd rfl (Or.inl rfl) (pe_op op_mod (pe_op op_add (pe_op op_add (pe_op op_mul (pv 3) pe_int) (pe_op op_mul pe_int (pe_op op_add (pv 2) pe_int))) (pe_op op_mul pe_int (pv 4))) pe_int))
            (pss_cons (ps_set (i := 3) scTape.nd rfl (Or.inl rfl) (pe_op op_mod (pe_op op_mul (pv 3) pe_int) pe_int))
            (pss_one (ps_expr (pe_bm PySem.F.plainAttrs_list PySem.F.slot_list_append PySem.F.type_list_append mt_append (pv 1) (pa_cons (pe_op op_mod (pe_op op_fdiv (pv 3) pe_int) pe_int) pa_nil))))))))))))
      (pss_one (ps_ret (pv 1)))), ?_⟩
    refine ⟨by show 0 ≤ sizeLine; decide, fun p hp => ?_⟩
    have s0 : ∀ o, Same H (upd H p o) := fun o => same_new hp
    refine ⟨_, rfl, a, _, rfl, .inl ((s0 _).seq hS), _, rfl, ?_, ?_, ?_⟩
    · rw [List.length_map]; omega
    · rw [List.length_map]; omega
    refine for_range (lo := 0) (fun i σ H' => ∃ (ts : List Int) (v2 v3 v4 : Option V), σ = [some (.ref a), some (.ref p), v2, v3, v4] ∧ H' = upd H p (.lst (ts.map V.int)) ∧ TapeOk ts ∧ ts.length ≤ 60 * i)
      ⟨[], none, none, none, rfl, rfl, TapeOk.nil, by simp⟩ ?_ ?_
    · rintro i σ H' hi ⟨ts, v2, v3, v4, rfl, rfl, ht, hl⟩
      have hi' : i < ns.length := by rw [List.length_map] at hi; omega
      -- value = abs(int(script[k]))
      refine ⟨_, rfl, _, rfl, a, _, _, V.int ns[i], rfl, rfl, (s0 _).seq hS, ?_, .inl ⟨_, rfl, _, rfl, ?_⟩⟩
      · rw [Int.zero_add]
        exact atI_nat (get_map (List.getElem?_eq_getElem hi'))
      have hv : 0 ≤ (if ns[i] < 0 then -ns[i] else ns[i]) := by split <;> omega
      generalize (if ns[i] < 0 then -ns[i] else ns[i]) = v at hv
      -- value >= 10 ** 18
      refine ⟨_, rfl, _, _, rfl, rfl, ⟨by decide, by decide, by decide⟩, _, _, rfl, rfl, _, rfl, ?_⟩
      refine ite2 (fun hc => ?_) (fun hc => ?_)
      · refine ⟨60, rfl, by decide, by decide, ?_⟩
        refine for_range (lo := 0) (n := 60) (fun j σ H' => ∃ (ts' : List Int) (v : Int) (v4 : Option V), σ = [some (.ref a), some (.ref p), some (.int (0 + (i : Int))), some (.int v), v4] ∧ H' = upd H p (.lst (ts'.map V.int)) ∧ TapeOk ts' ∧ ts'.length ≤ 60 * i + j)
          ⟨ts, v, v4, rfl, rfl, ht, by omega⟩ ?_ ?_
        · rintro j σ H' hj ⟨ts', u, v4', rfl, rfl, ht', hl'⟩
          refine ⟨_, rfl, _, _, rfl, rfl, _, rfl, ?_⟩
          refine ite2 (fun hu => ?_) (fun hu => ?_)
          · refine ⟨_, rfl, .inl ⟨rfl, _, SqL.of upd_same⟩, _, rfl, _, _, rfl, rfl, (by show (0 : Int) < 1000; decide), p, _, _, rfl, rfl, upd_same, ?_, ?_⟩
            · rw [List.length_map]; exact Nat.lt_of_le_of_lt (by omega : ts'.length ≤ 3780) (by decide)
            refine ⟨_, rfl, _, _, rfl, rfl, ⟨by decide, by decide⟩, ?_⟩
            refine ⟨ts' ++ [u % 1000], u / 1000, _, rfl, snocT, ht'.snoc (by omega) (by omega), ?_⟩
            rw [List.length_append]; simp only [List.length_cons, List.length_nil]; omega
          · exact ⟨ts', u, _, rfl, rfl, ht', by omega⟩
        · rintro σ H' ⟨ts', u, v4', rfl, rfl, ht', hl'⟩
          exact ⟨ts', _, _, _, rfl, rfl, ht', by omega⟩
      · have hc' : v < 10 ^ 18 := by
          have := of_decide_eq_false (Bool.eq_false_iff.mpr hc)
          have e : (10 : Int) ^ (18 : Int).toNat = 10 ^ 18 := rfl
          omega
        refine ⟨4, rfl, by decide, by decide, ?_⟩
        refine for_range (lo := 0) (n := 4) (fun j σ H' => ∃ (ts' : List Int) (v : Int) (v4 : Option V), σ = [some (.ref a), some (.ref p), some (.int (0 + (i : Int))), some (.int v), v4] ∧ H' = upd H p (.lst (ts'.map V.int)) ∧ TapeOk ts' ∧ ts'.length ≤ 60 * i + j ∧ 0 ≤ v ∧ v < 10 ^ 18)
          ⟨ts, v, v4, rfl, rfl, ht, by omega, hv, hc'⟩ ?_ ?_
        · rintro j σ H' hj ⟨ts', u, v4', rfl, rfl, ht', hl', hu0, hu1⟩
          refine ⟨_, rfl, _, _, rfl, rfl, .inl ⟨by omega, by omega⟩, _, rfl, _, _, rfl, rfl, _, _, rfl, rfl, .inl ⟨by decide, by decide⟩, _, _, rfl, rfl, _, rfl, _, _, rfl, rfl, .inl ⟨by decide, by decide⟩, _, _, rfl, rfl, _, _, rfl, rfl, (by show (0 : Int) < 2147483647; decide), ?_⟩
          refine ⟨_, rfl, _, _, rfl, rfl, .inl ⟨by omega, by omega⟩, _, _, rfl, rfl, (by show (0 : Int) < 2147483647; decide), ?_⟩
          refine ⟨_, rfl, .inl ⟨rfl, _, SqL.of upd_same⟩, _, rfl, _, _, rfl, rfl, ⟨by decide, by decide⟩, _, _, rfl, rfl, (by show (0 : Int) < 1000; decide), p, _, _, rfl, rfl, upd_same, ?_, ?_⟩
          · rw [List.length_map]; exact Nat.lt_of_le_of_lt (by omega : ts'.length ≤ 3780) (by decide)
          refine ⟨ts' ++ [_], _, _, rfl, snocT, ht'.snoc (by omega) (by omega), ?_, by omega, by omega⟩
          rw [List.length_append]; simp only [List.length_cons, List.length_nil]; omega
        · rintro σ H' ⟨ts', u, v4', rfl, rfl, ht', hl', _, _⟩
          exact ⟨ts', _, _, _, rfl, rfl, ht', by omega⟩
    · rintro σ H' ⟨ts, v2, v3, v4, rfl, rfl, ht, hl⟩
      refine ⟨_, rfl, ?_⟩
      exact k p ts hp ht (by rw [List.length_map] at hl; omega)
theorem scAt : FnScope ["tape", "k"] ["tape", "k"] (defScope sAt) := ⟨rfl, rfl, rfl, by decide +kernel, rfl, by decide +kernel, by decide +kernel⟩
theorem ok_at (F : Fun K "_law_at" "_law_at" sAt f fd) (B : Blt mg) : FnOk P w K mg base CX0 1 f fd ["tape", "k"] (spAt K) := by
  refine F.ok scAt (fun vs H Q E h => ?_) (fun cdv A outer s H vs Q E hr h => ?_)
  · obtain ⟨p, ts, k, rfl, _⟩ := h
    rfl
  · obtain ⟨p, ts, k, rfl, hS, q⟩ := h
    refine ⟨_, pss_cons (ps_if (pt_cmpR op_lt (pv 1) (pe_callB call_len_seq (by rfl) B.len PySem.boot_len (pa_cons (pv 0) pa_nil)) (nomark _)) (pss_one (ps_ret (pe_ix ix_list (pv 0) (pv 1) (fun _ _ => rfl)))) pss_nil)
      (pss_one (ps_ret pe_int)), ?_⟩
    refine ⟨_, rfl, _, rfl, p, _, rfl, .inl hS, _, _, rfl, rfl, _, rfl, ?_⟩
    rw [List.length_map]
    rw [List.getD_eq_getElem?_getD] at q
    refine ite2 (fun hc => ?_) (fun hc => ?_)
    · have h1 : k < ts.length := by
        have := of_decide_eq_true hc
        omega
      rw [List.getElem?_eq_getElem h1] at q
      exact ⟨_, rfl, _, rfl, p, _, _, _, rfl, rfl, hS, atI_nat (get_map (List.getElem?_eq_getElem h1)), q⟩
    · have h1 : ts.length ≤ k := by
        have := of_decide_eq_false (Bool.eq_false_iff.mpr hc)
        omega
      rw [List.getElem?_eq_none h1] at q
      exact q
end
end Sg

set_option Elab.async false
set_option linter.all false
set_option maxRecDepth 100000
set_option maxHeartbeats 4000000
namespace Sg
open PySem PySem.Spec PyProof.Rows L2
abbrev sWhole : Stmt := top 1
abbrev sBetween : Stmt := top 3
/-- what the bounds' functions use -/
structure Bds (mg : Str → Option Value) (fW : Addr) : Prop where
  isi : mg "isinstance" = none
  int : mg "int" = none
  bool : mg "bool" = none
  gW : mg "is_whole" = some (.ref fW)
theorem boot_isi : bootBuiltins "isinstance" = some (.builtin "isinstance") := by decide +kernel
theorem kit_ii {K : PySem.W.Frag} : PySem.W.kitOne K (.type "int") (.type "int") = some true := kit_ty (by decide +kernel)
theorem kit_ib {K : PySem.W.Frag} : PySem.W.kitOne K (.type "int") (.type "bool") = some false := kit_ty (by decide +kernel)
def spWhole (K : PySem.W.Frag) : Sp := fun vs H Q _ => ∃ (x : V) (t : Value) (b1 b2 : Bool), vs = [x] ∧ TyX K H x t ∧ PySem.W.kitOne K t (.type "int") = some b1 ∧ PySem.W.kitOne K t (.type "bool") = some b2 ∧ Q (.bl (b1 && !b2)) H
def spBetween (K : PySem.W.Frag) : Sp := fun vs H Q _ => ∃ (x : V) (lo hi : Int), vs = [x, .int lo, .int hi] ∧
  ((∃ i, x = .int i ∧ Q (.bl (decide (lo ≤ i) && decide (i ≤ hi))) H) ∨ (∃ t b1 b2, TyX K H x t ∧ PySem.W.kitOne K t (.type "int") = some b1 ∧ PySem.W.kitOne K t (.type "bool") = some b2 ∧ (b1 && !b2) = false ∧ Q (.bl false) H))
section
variable {P : Program} {w : World} {K : PySem.W.Frag} {mg : Str → Option Value} {base : Heap} {f fW : Addr} {fd fdW : FuncData}
theorem scWhole : FnScope ["value"] ["value"] (defScope sWhole) := ⟨rfl, rfl, rfl, by decide +kernel, rfl, by decide +kernel, by decide +kernel⟩
theorem ok_whole (F : Fun K "is_whole" "is_whole" sWhole f fd) (B : Bds mg fW) : FnOk P w K mg base CX0 1 f fd ["value"] (spWhole K) := by
  refine F.ok scWhole (fun vs H Q E h => ?_) (fun cdv A outer s H vs Q E hr h => ?_)
  · obtain ⟨x, t, b1, b2, rfl, _⟩ := h
    rfl
  · obtain ⟨x, t, b1, b2, rfl, ty, h1, h2, q⟩ := h
    refine ⟨_, pss_one (ps_ret (pe_and (pe_callB call_isi (by rfl) B.isi boot_isi (pa_cons (pv 0) (pa_cons (pe_bltn (v := .ty "int") (by rfl) B.int boot_int rfl) pa_nil)))
      (pe_one (pe_not (pe_callB call_isi (by rfl) B.isi boot_isi (pa_cons (pv 0) (pa_cons (pe_bltn (v := .ty "bool") (by rfl) B.bool boot_bool rfl) pa_nil))))))), ?_⟩
    refine ⟨_, rfl, x, _, t, _, b1, rfl, .ty "int", ty, h1, b1, rfl, ?_⟩
    cases b1 with
    | true => exact iteT ⟨_, rfl, x, _, t, _, b2, rfl, .ty "bool", ty, h2, b2, rfl, q⟩
    | false => exact iteF q
theorem scBetween : FnScope ["value", "low", "high"] ["value", "low", "high"] (defScope sBetween) := ⟨rfl, rfl, rfl, by decide +kernel, rfl, by decide +kernel, by decide +kernel⟩
theorem ok_between (F : Fun K "is_between" "is_between" sBetween f fd) (B : Bds mg fW) (FW : Fun K "is_whole" "is_whole" sWhole fW fdW) (bW : Binds K fdW ["value"] []) : FnOk P w K mg base CX0 2 f fd ["value", "low", "high"] (spBetween K) := by
  have GW : FnOk P w K mg base CX0 1 fW fdW ["value"] (spWhole K) := ok_whole FW B
  refine F.ok scBetween (fun vs H Q E h => ?_) (fun cdv A outer s H vs Q E hr h => ?_)
  · obtain ⟨x, lo, hi, rfl, _⟩ := h
    rfl
  · obtain ⟨x, lo, hi, rfl, h⟩ := h
    refine ⟨_, pss_one (ps_ret (pe_and (pe_call GW hr (by rfl) B.gW FW.kp bW .nil pass0 (pa_cons (pv 0) pa_nil)) (pe_one (pe_chain op_le op_le (pv 1) (pv 0) (pv 2))))), ?_⟩
    rcases h with ⟨i, rfl, q⟩ | ⟨t, b1, b2, ty, h1, h2, hb, q⟩
    · refine ⟨_, rfl, _, _, true, false, rfl, .base (.int i), kit_ii, kit_ib, true, rfl, iteT ?_⟩
      refine ⟨_, rfl, _, rfl, _, _, rfl, rfl, _, rfl, ?_⟩
      by_cases c : lo ≤ i
      · rw [decide_eq_true c] at q
        rw [if_pos (decide_eq_true c)]
        exact ⟨_, rfl, _, _, rfl, rfl, q⟩
      · rw [decide_eq_false c] at q
        rw [if_neg (by rw [decide_eq_false c]; exact Bool.false_ne_true)]
        exact q
    · refine ⟨_, rfl, x, t, b1, b2, rfl, ty, h1, h2, _, rfl, ?_⟩
      rw [hb]
      exact iteF q
end
end Sg

set_option Elab.async false
set_option linter.all false
set_option maxRecDepth 100000
set_option maxHeartbeats 4000000
namespace Sg
open PySem PySem.Spec PyProof.Rows L2
/-! ### the flash -/
abbrev cF (i : Nat) : Stmt := inClass (top 16) i
theorem lk_here {k : Str} {v : V} {r : List (Str × V)} : List.lookup k ((k, v) :: r) = some v := by
  have e : (k == k) = true := beq_self_eq_true k
  simp only [List.lookup, e]
theorem lk_past {k g : Str} {v : V} {r : List (Str × V)} (h : (k == g) = false) : List.lookup k ((g, v) :: r) = List.lookup k r := by
  simp only [List.lookup, h]
theorem put_here {f : Str} {v x : V} {r : List (Str × V)} : putF f v ((f, x) :: r) = (f, v) :: r := if_pos rfl
theorem put_past {f g : Str} {v x : V} {r : List (Str × V)} (h : ¬ g = f) : putF f v ((g, x) :: r) = (g, x) :: putF f v r := if_neg h
/-- the attributes of a flash, in the order in which __init__ stores them -/
def ff (n : Int) (w c : Addr) (pw : Bool) (rm it : V) : List (Str × V) := [("blocks", .int n), ("_wears", .ref w), ("_contents", .ref c), ("_powered", .bl pw), ("_remaining", rm), ("_interrupted", it)]
section
variable {n : Int} {w c : Addr} {pw : Bool} {rm it : V}
theorem ff_blocks : (ff n w c pw rm it).lookup ("blocks" : Str) = some (.int n) := lk_here
theorem ff_wears : (ff n w c pw rm it).lookup ("_wears" : Str) = some (.ref w) := (lk_past (by decide +kernel)).trans lk_here
theorem ff_contents : (ff n w c pw rm it).lookup ("_contents" : Str) = some (.ref c) := (lk_past (by decide +kernel)).trans ((lk_past (by decide +kernel)).trans lk_here)
theorem ff_powered : (ff n w c pw rm it).lookup ("_powered" : Str) = some (.bl pw) := (lk_past (by decide +kernel)).trans ((lk_past (by decide +kernel)).trans ((lk_past (by decide +kernel)).trans lk_here))
theorem ff_remaining : (ff n w c pw rm it).lookup ("_remaining" : Str) = some rm := (lk_past (by decide +kernel)).trans ((lk_past (by decide +kernel)).trans ((lk_past (by decide +kernel)).trans ((lk_past (by decide +kernel)).trans lk_here)))
theorem ff_interrupted : (ff n w c pw rm it).lookup ("_interrupted" : Str) = some it := (lk_past (by decide +kernel)).trans ((lk_past (by decide +kernel)).trans ((lk_past (by decide +kernel)).trans ((lk_past (by decide +kernel)).trans ((lk_past (by decide +kernel)).trans lk_here))))
theorem ff_no {m : Str} (h : [("blocks" : Str), "_wears", "_contents", "_powered", "_remaining", "_interrupted"].all (fun g => !(m == g)) = true) : (ff n w c pw rm it).lookup m = Option.none := by
  simp only [List.all_cons, List.all_nil, Bool.and_true, Bool.and_eq_true, Bool.not_eq_true'] at h
  obtain ⟨h1, h2, h3, h4, h5, h6⟩ := h
  exact (lk_past h1).trans ((lk_past h2).trans ((lk_past h3).trans ((lk_past h4).trans ((lk_past h5).trans ((lk_past h6).trans rfl)))))
theorem ff_putP {b : Bool} : putF "_powered" (.bl b) (ff n w c pw rm it) = ff n w c b rm it := (put_past (by decide +kernel)).trans (congrArg _ ((put_past (by decide +kernel)).trans (congrArg _ ((put_past (by decide +kernel)).trans (congrArg _ put_here)))))
theorem ff_putR {v : V} : putF "_remaining" v (ff n w c pw rm it) = ff n w c pw v it := (put_past (by decide +kernel)).trans (congrArg _ ((put_past (by decide +kernel)).trans (congrArg _ ((put_past (by decide +kernel)).trans (congrArg _ ((put_past (by decide +kernel)).trans (congrArg _ put_here)))))))
theorem ff_putI {v : V} : putF "_interrupted" v (ff n w c pw rm it) = ff n w c pw rm v := (put_past (by decide +kernel)).trans (congrArg _ ((put_past (by decide +kernel)).trans (congrArg _ ((put_past (by decide +kernel)).trans (congrArg _ ((put_past (by decide +kernel)).trans (congrArg _ ((put_past (by decide +kernel)).trans (congrArg _ put_here)))))))))
theorem ff_len : (ff n w c pw rm it).length < 1000 := by show 6 < 1000; decide
end
/-- what was tracked elsewhere than at xs is as it was -/
def Off (xs : List Addr) (H H' : Hp) : Prop := ∀ b o, H b = some o → b ∉ xs → H' b = some o
structure FlashAt (C : Addr) (H : Hp) (p w c : Addr) (as : List Addr) (ws : List Int) (ps : List (List V)) (pw : Bool) (rm it : V) : Prop where
  ob : ∃ dx, H p = some (.ins C dx (ff (ps.length : Int) w c pw rm it))
  wl : H w = some (.lst (ws.map V.int))
  gr : Grid H c as ps
  lw : ws.length = ps.length
  pg : Pgs H ps
  nwc : w ≠ c
  nwa : w ∉ as
theorem FlashAt.same' {C : Addr} {H H' : Hp} {p w c : Addr} {as : List Addr} {ws : List Int} {ps : List (List V)} {pw : Bool} {rm it : V} (F : FlashAt C H p w c as ws ps pw rm it) (s : Same H H') : FlashAt C H' p w c as ws ps pw rm it := by
  obtain ⟨dx, h⟩ := F.ob
  exact ⟨⟨dx, s _ _ h⟩, s _ _ F.wl, F.gr.same s, F.lw, F.pg.mono (same_tups s), F.nwc, F.nwa⟩
/-- what the top has written of the flash's class and the errors -/
structure FT (K : PySem.W.Frag) (mg : Str → Option Value) (C CN CP CS fW fB : Addr) : Prop where
  cl : Cls K C
  n1 : NoAttr K C "blocks"
  n2 : NoAttr K C "_wears"
  n3 : NoAttr K C "_contents"
  n4 : NoAttr K C "_powered"
  n5 : NoAttr K C "_remaining"
  n6 : NoAttr K C "_interrupted"
  gC : mg "Flash" = some (.ref C)
  gN : mg "NotValid" = some (.ref CN)
  xN : PySem.W.excIn K CN [.type "ValueError", .type "Exception", .type "BaseException", .type "object"] "ValueError.__new__" = true
  kN : PySem.W.keepIn K (.ref CN) = true
  bN : PySem.W.subIn K (.ref CN) (.type "BaseException") = some true
  tN : PySem.W.typeIn K (.ref CN) = some (.type "type")
  gP : mg "PowerOff" = some (.ref CP)
  xP : PySem.W.excIn K CP [.type "ValueError", .type "Exception", .type "BaseException", .type "object"] "ValueError.__new__" = true
  kP : PySem.W.keepIn K (.ref CP) = true
  bP : PySem.W.subIn K (.ref CP) (.type "BaseException") = some true
  tP : PySem.W.typeIn K (.ref CP) = some (.type "type")
  gS : mg "SpindleError" = some (.ref CS)
  eN : PySem.W.exmOne K (.ref CN) (.ref CS) = some true
  eP : PySem.W.exmOne K (.ref CP) (.ref CS) = some true
  gB : mg "is_between" = some (.ref fB)
  bd : Bds mg fW
  bt : Blt mg
  lst : mg "list" = Option.none
  tup : mg "tuple" = Option.none
  pag : ∃ t, mg "PAGES" = some (.int 8 t)
  mnb : ∃ t, mg "MIN_BLOCKS" = some (.int 8 t)
  mxb : ∃ t, mg "MAX_BLOCKS" = some (.int 24 t)
def era (v : V) : List V := if v = .non then [] else List.replicate 8 v
theorem row_era (v : V) : row (era v) = List.replicate 8 v := by
  unfold era
  by_cases h : v = .non
  · rw [if_pos h, h]; rfl
  · rw [if_neg h]; rfl
theorem pgs_era {H : Hp} {v : V} (h : v = .non ∨ PgN H v) : PgsN H (era v) := by
  unfold era
  by_cases e : v = .non
  · rw [if_pos e]; exact ⟨by simp, fun u hu => by cases hu⟩
  · rw [if_neg e]
    refine ⟨by simp, fun u hu => ?_⟩
    rw [List.mem_replicate] at hu
    rw [hu.2]
    exact h.resolve_left e
/-- what carrying an operation out makes: pg None: all pages of block b get cv; else the next page of block b gets it -/
def Carried (C : Addr) (H : Hp) (p w c : Addr) (as : List Addr) (ws : List Int) (ps : List (List V)) (pw : Bool) (rm it : V) (b : Nat) (pg cv : V) (Kt : Hp → Prop) : Prop :=
  (pg = .non ∧ (cv = .non ∨ PgN H cv) ∧ ∀ q H' wv, H q = Option.none → ws[b]? = some wv → FlashAt C H' p w c (as.set b q) (ws.set b (wv + 1)) (ps.set b (era cv)) pw rm it → Off (p :: w :: c :: as) H H' → Tups H H' → Kt H') ∨
  (∃ vs, ps[b]? = some vs ∧ pg = .int (vs.length : Int) ∧ vs.length < 8 ∧ PgN H cv ∧ ∀ H', FlashAt C H' p w c as ws (ps.set b (vs ++ [cv])) pw rm it → Off (p :: w :: c :: as) H H' → Tups H H' → Kt H')
def spCarry (C : Addr) : Sp := fun vs H Q _ => ∃ p w c as ws ps pw rm it b pg cv, vs = [.ref p, .int ((b : Nat) : Int), pg, cv] ∧ FlashAt C H p w c as ws ps pw rm it ∧ b < ps.length ∧ Carried C H p w c as ws ps pw rm it b pg cv (Q .non)
section
variable {P : Program} {wd : World} {K : PySem.W.Frag} {mg : Str → Option Value} {base : Heap} {f C CN CP CS fW fB : Addr} {fd fdB fdW : FuncData}
theorem scCarry : FnScope ["self", "block", "page", "content"] ["self", "block", "page", "content"] (defScope (cF 12)) := ⟨rfl, rfl, rfl, by decide +kernel, rfl, by decide +kernel, by decide +kernel⟩
theorem ok_carry (F : Fun K "_carry_out" "Flash._carry_out" (cF 12) f fd) (T : FT K mg C CN CP CS fW fB) : FnOk P wd K mg base CX0 1 f fd ["self", "block", "page", "content"] (spCarry C) := by
  refine F.ok scCarry (fun vs H Q E h => ?_) (fun cdv A outer s H vs Q E hr h => ?_)
  · obtain ⟨p, w, c, as, ws, ps, pw, rm, it, b, pg, cv, rfl, _⟩ := h
    rfl
  · obtain ⟨p, w, c, as, ws, ps, pw, rm, it, b, pg, cv, rfl, FA, hb, k⟩ := h
    obtain ⟨tk, hpag⟩ := T.pag
    obtain ⟨⟨dx, hob⟩, hwl, G, hlw, hpg, nwc, nwa⟩ := id FA
    refine ⟨_, pss_one (ps_if (pt_cmpR op_isN (pv 2) pe_non (nomark _))
      (pss_cons (ps_asg (pe_op op_rep (pe_lst (pa_cons (pv 3) pa_nil)) (pe_glob (v := .int 8) (by rfl) hpag ⟨_, rfl⟩)) (pg_sub (pe_fld (pv 0) rfl) (pv 1) set_list))
        (pss_one (ps_augS (pe_fld (pv 0) rfl) (pv 1) get_list pe_int ip_add set_list)))
      (pss_one (ps_asg (pv 3) (pg_sub (pe_ix ix_list (pe_fld (pv 0) rfl) (pv 1) (fun _ _ => rfl)) (pv 2) set_list)))), ?_⟩
    have hba : b < as.length := by rw [G.len]; exact hb
    have hbw : b < ws.length := by rw [hlw]; exact hb
    have npw : p ≠ w := ne_of hob hwl (by intro z; cases z)
    have npc : p ≠ c := ne_of hob G.ls (by intro z; cases z)
    refine ⟨_, rfl, rfl, _, rfl, ?_⟩
    rcases k with ⟨rfl, hcv, k⟩ | ⟨vs, hvs, rfl, hl8, hcv, k⟩
    · rw [decide_eq_true rfl]
      refine iteT ?_
      refine ⟨_, rfl, by show 1 ≤ sizeLine; decide, fun l hl => ?_⟩
      refine ⟨l, 8, [cv], rfl, rfl, upd_same, by decide, by decide, by show 8 ≤ sizeLine; decide, fun q hq => ?_⟩
      have hrep : (List.replicate (8 : Int).toNat [cv]).flatten = row (era cv) := by rw [row_era]; rfl
      rw [hrep]
      have npl : p ≠ l := ne_of_none hob hl
      have hqH : H q = Option.none := (same_new hl).free hq
      have npq : p ≠ q := ne_of_none hob hqH
      have hob1 : (upd (upd H l (.lst [cv])) q (.lst (row (era cv)))) p = some (.ins C dx (ff (ps.length : Int) w c pw rm it)) := by rw [upd_ne npq, upd_ne npl]; exact hob
      have ncl : c ≠ l := ne_of_none G.ls hl
      have ncq : c ≠ q := ne_of_none G.ls hqH
      have hc1 : (upd (upd H l (.lst [cv])) q (.lst (row (era cv)))) c = some (.lst (as.map V.ref)) := by rw [upd_ne ncq, upd_ne ncl]; exact G.ls
      refine ⟨_, rfl, p, C, dx, _, _, rfl, hob1, T.cl, T.n3, ff_contents, _, rfl, c, _, _, b, rfl, rfl, hc1, Evl.ixN_nat (by rw [List.length_map]; exact hba), ?_⟩
      have hset : (as.map V.ref).set b (V.ref q) = (as.set b q).map V.ref := by rw [List.map_set]
      rw [hset]
      generalize hH2 : upd (upd (upd H l (.lst [cv])) q (.lst (row (era cv)))) c (.lst ((as.set b q).map V.ref)) = H2
      have hwq : w ≠ q := ne_of_none hwl hqH
      have hwl' : w ≠ l := ne_of_none hwl hl
      have hob2 : H2 p = some (.ins C dx (ff (ps.length : Int) w c pw rm it)) := by rw [← hH2, upd_ne npc]; exact hob1
      have hw2 : H2 w = some (.lst (ws.map V.int)) := by rw [← hH2, upd_ne nwc, upd_ne hwq, upd_ne hwl']; exact hwl
      refine ⟨_, rfl, p, C, dx, _, _, rfl, hob2, T.cl, T.n2, ff_wears, _, rfl, w, _, b, .int ws[b], rfl, rfl, SqL.of hw2, get_map (List.getElem?_eq_getElem hbw), _, _, rfl, rfl, w, _, _, b, rfl, rfl, hw2, Evl.ixN_nat (by rw [List.length_map]; exact hbw), ?_⟩
      have hset2 : (ws.map V.int).set b (V.int (ws[b] + 1)) = (ws.set b (ws[b] + 1)).map V.int := by rw [List.map_set]
      rw [hset2]
      have keep : ∀ x o, H x = some o → x ≠ w → x ≠ c → (upd H2 w (.lst ((ws.set b (ws[b] + 1)).map V.int))) x = some o := fun x o hx h1 h2 => by
        rw [upd_ne h1, ← hH2, upd_ne h2, upd_ne (ne_of_none hx hqH), upd_ne (ne_of_none hx hl)]; exact hx
      have tp : Tups H (upd H2 w (.lst ((ws.set b (ws[b] + 1)).map V.int))) := fun t xs ht => keep t _ ht (ne_of ht hwl (by intro z; cases z)) (ne_of ht G.ls (by intro z; cases z))
      refine k q _ ws[b] hqH (List.getElem?_eq_getElem hbw) ⟨⟨dx, ?_⟩, upd_same, ?_, ?_, ?_, nwc, ?_⟩ ?_ tp
      · rw [List.length_set]; exact keep p _ hob npw npc
      · refine G.swap hqH ?_ ?_ ?_
        · rw [upd_ne nwc.symm, ← hH2, upd_same]
        · rw [upd_ne hwq.symm, ← hH2, upd_ne ncq.symm, upd_same]
        · intro x hx o ho
          exact keep x o ho (fun e => nwa (e ▸ hx)) (fun e => G.nc (e ▸ hx))
      · rw [List.length_set, List.length_set]; exact hlw
      · exact (hpg.mono tp).set ((pgs_era hcv).mono tp)
      · intro hm
        obtain ⟨j, hj⟩ := List.getElem?_of_mem hm
        rcases get_set_cases hj with ⟨_, e, _⟩ | ⟨_, e⟩
        · exact hwq e
        · exact nwa (List.mem_of_getElem? e)
      · intro x o ho hx
        simp only [List.mem_cons, not_or] at hx
        exact keep x o ho hx.2.1 hx.2.2.1
    · rw [decide_eq_false (by intro z; cases z)]
      refine iteF ?_
      obtain ⟨a, ha, hrow⟩ := G.at hvs
      refine ⟨_, rfl, _, rfl, p, C, dx, _, _, rfl, hob, T.cl, T.n3, ff_contents, _, rfl, c, _, _, _, rfl, rfl, SqL.of G.ls, atI_nat (get_map ha), _, rfl, a, _, _, vs.length, rfl, rfl, hrow, Evl.ixN_nat (by rw [row_len (by omega)]; exact hl8), ?_⟩
      rw [row_set hl8]
      have tp : Tups H (upd H a (.lst (row (vs ++ [cv])))) := Tups.lst hrow
      have nap : a ≠ p := ne_of hrow hob (by intro z; cases z)
      have nwa' : w ≠ a := fun e => nwa (e ▸ List.mem_of_getElem? ha)
      refine k _ ⟨⟨dx, ?_⟩, ?_, ?_, ?_, ?_, nwc, nwa⟩ ?_ tp
      · rw [List.length_set, upd_ne nap.symm]; exact hob
      · rw [upd_ne nwa']; exact hwl
      · exact G.prog ha upd_same fun x o hx ho => by rw [upd_ne hx]; exact ho
      · rw [List.length_set]; exact hlw
      · refine (hpg.mono tp).set ⟨by rw [List.length_append]; simp only [List.length_cons, List.length_nil]; omega, fun v hv => ?_⟩
        rcases List.mem_append.mp hv with h | h
        · exact ((hpg vs (List.mem_of_getElem? hvs)).2 v h).mono tp
        · rw [List.mem_singleton.mp h]; exact hcv.mono tp
      · intro x o ho hx
        simp only [List.mem_cons, not_or] at hx
        rw [upd_ne (fun e : x = a => hx.2.2.2 (by rw [e]; exact List.mem_of_getElem? ha))]; exact ho
end
end Sg

set_option Elab.async false
set_option linter.all false
set_option maxRecDepth 100000
set_option maxHeartbeats 4000000
namespace Sg
open PySem PySem.Spec PyProof.Rows L2
/-- self has so many blocks -/
def Blk (C : Addr) (H : Hp) (p : Addr) (n : Int) : Prop := ∃ dx fs, H p = some (.ins C dx fs) ∧ fs.lookup ("blocks" : Str) = some (.int n)
theorem FlashAt.blk {C : Addr} {H : Hp} {p w c : Addr} {as : List Addr} {ws : List Int} {ps : List (List V)} {pw : Bool} {rm it : V} (F : FlashAt C H p w c as ws ps pw rm it) : Blk C H p ps.length := by
  obtain ⟨dx, h⟩ := F.ob
  exact ⟨dx, _, h, ff_blocks⟩
def spCkB (C CN : Addr) : Sp := fun vs H Q E => ∃ p n b, vs = [.ref p, .int b] ∧ Blk C H p n ∧ (0 ≤ b ∧ b < n → Q .non H) ∧ (¬ (0 ≤ b ∧ b < n) → E (.ref CN) Option.none H)
def spCkP (C CN : Addr) : Sp := fun vs H Q E => ∃ p n b g, vs = [.ref p, .int b, .int g] ∧ (∃ dx fs, H p = some (.ins C dx fs) ∧ fs.lookup ("blocks" : Str) = some (.int n) ∧ fs.lookup ("_check_block" : Str) = Option.none) ∧
  ((0 ≤ b ∧ b < n) ∧ (0 ≤ g ∧ g < 8) → Q .non H) ∧ (¬ ((0 ≤ b ∧ b < n) ∧ (0 ≤ g ∧ g < 8)) → E (.ref CN) Option.none H)
def spPow (C CP : Addr) : Sp := fun vs H Q E => ∃ p pw dx fs, vs = [.ref p] ∧ H p = some (.ins C dx fs) ∧ fs.lookup ("_powered" : Str) = some (.bl pw) ∧ (pw = true → Q .non H) ∧ (pw = false → E (.ref CP) Option.none H)
section
variable {P : Program} {wd : World} {K : PySem.W.Frag} {mg : Str → Option Value} {base : Heap} {f C CN CP CS fW fB fk fk2 fk3 fk4 : Addr} {fd fdB fdW fdk fdk2 fdk3 fdk4 : FuncData}
abbrev passX {X : Cx} {W : WX} {E : XK} (tk : Takes X W) (h : ∀ cls d σ H, E cls d H → W cls d σ H) := passes_call (E := E) tk h
/-- raise NotValid() -/
theorem ps_notValid {X : Cx} {W : WX} {p pos pos2 : Pos} {C CN CP CS fW fB : Addr} (T : FT X.K X.mg C CN CP CS fW fB) (hc : X.calm = true) (tk : Takes X W) (hg : Gl X "NotValid") : PS X (.Raise (some (.Call (.Name "NotValid" p) [] [] pos)) none pos2) (fun _ σ H => W (.ref CN) Option.none σ H) :=
  ps_raise hc tk (pmk_own0 PySem.F.excBase_ValueError T.xN T.gN T.kN (raises_own T.bN T.tN) hg)
theorem ps_powerOff {X : Cx} {W : WX} {p pos pos2 : Pos} {C CN CP CS fW fB : Addr} (T : FT X.K X.mg C CN CP CS fW fB) (hc : X.calm = true) (tk : Takes X W) (hg : Gl X "PowerOff") : PS X (.Raise (some (.Call (.Name "PowerOff" p) [] [] pos)) none pos2) (fun _ σ H => W (.ref CP) Option.none σ H) :=
  ps_raise hc tk (pmk_own0 PySem.F.excBase_ValueError T.xP T.gP T.kP (raises_own T.bP T.tP) hg)
abbrev GBet (P : Program) (wd : World) (K : PySem.W.Frag) (mg : Str → Option Value) (base : Heap) (fB : Addr) (fdB : FuncData) : Prop := FnOk P wd K mg base CX0 2 fB fdB ["value", "low", "high"] (spBetween K) ∧ Binds K fdB ["value", "low", "high"] [] ∧ PySem.W.keepIn K (.ref fB) = true
theorem scCkB : FnScope ["self", "block"] ["self", "block"] (defScope (cF 8)) := ⟨rfl, rfl, rfl, by decide +kernel, rfl, by decide +kernel, by decide +kernel⟩
theorem ok_ckB (F : Fun K "_check_block" "Flash._check_block" (cF 8) f fd) (T : FT K mg C CN CP CS fW fB) (G : GBet P wd K mg base fB fdB) : FnOk P wd K mg base (L2.CX P wd) 3 f fd ["self", "block"] (spCkB C CN) := by
  obtain ⟨GB, bB, kB⟩ := G
  refine F.okX scCkB (fun vs H Q E h => ?_) (fun cdv A outer s H vs Q E hr h => ?_)
  · obtain ⟨p, n, b, rfl, _⟩ := h
    rfl
  · obtain ⟨p, n, b, rfl, ⟨dx, fs, hob, hn⟩, k1, k2⟩ := h
    refine ⟨_, pss_one (ps_if (pt_not (pt_val (pe_call GB hr (by rfl) T.gB kB bB .nil pass0 (pa_cons (pv 1) (pa_cons pe_int (pa_cons (pe_op op_sub (pe_fld (pv 0) rfl) pe_int) pa_nil)))))) (pss_one (ps_notValid T rfl (takes_of rfl rfl rfl rfl) (by rfl))) pss_nil), ?_⟩
    refine ⟨_, rfl, _, rfl, p, C, dx, _, _, rfl, hob, T.cl, T.n1, hn, _, _, rfl, rfl, _, _, _, rfl, .inl ⟨b, rfl, _, rfl, ?_⟩⟩
    by_cases c : 0 ≤ b ∧ b < n
    · rw [decide_eq_true c.1, decide_eq_true (show b ≤ n - 1 by omega)]
      exact iteF (k1 c)
    · have e : (decide (0 ≤ b) && decide (b ≤ n - 1)) = false := by
        rw [Bool.and_eq_false_iff, decide_eq_false_iff_not, decide_eq_false_iff_not]; omega
      rw [e]
      exact iteT (k2 c)
theorem scCkP : FnScope ["self", "block", "page"] ["self", "block", "page"] (defScope (cF 9)) := ⟨rfl, rfl, rfl, by decide +kernel, rfl, by decide +kernel, by decide +kernel⟩
theorem ok_ckP (F : Fun K "_check_page" "Flash._check_page" (cF 9) f fd) (T : FT K mg C CN CP CS fW fB) (G : GBet P wd K mg base fB fdB)
    (Gk : FnOk P wd K mg base (L2.CX P wd) 3 fk fdk ["self", "block"] (spCkB C CN)) (bk : Binds K fdk ["self", "block"] []) (mk : Meth K C "_check_block" fk) : FnOk P wd K mg base (L2.CX P wd) 4 f fd ["self", "block", "page"] (spCkP C CN) := by
  obtain ⟨GB, bB, kB⟩ := G
  obtain ⟨tk, hpag⟩ := T.pag
  refine F.okX scCkP (fun vs H Q E h => ?_) (fun cdv A outer s H vs Q E hr h => ?_)
  · obtain ⟨p, n, b, g, rfl, _⟩ := h
    rfl
  · obtain ⟨p, n, b, g, rfl, ⟨dx, fs, hob, hn, hm⟩, k1, k2⟩ := h
    have hr2 : Room 2 _ := hr.mono (by decide)
    refine ⟨_, pss_cons (ps_expr (pe_meth (pv 0) T.cl mk Gk hr bk .nil (passX (E := E) (takes_of rfl rfl rfl rfl) (fun _ _ _ _ z => z)) (pa_cons (pv 1) pa_nil)))
      (pss_one (ps_if (pt_not (pt_val (pe_call GB hr2 (by rfl) T.gB kB bB .nil pass0 (pa_cons (pv 2) (pa_cons pe_int (pa_cons (pe_op op_sub (pe_glob (v := .int 8) (by rfl) hpag ⟨_, rfl⟩) pe_int) pa_nil)))))) (pss_one (ps_notValid T rfl (takes_of rfl rfl rfl rfl) (by rfl))) pss_nil)), ?_⟩
    refine ⟨_, rfl, p, dx, fs, rfl, hob, hm, _, rfl, p, n, b, rfl, ⟨dx, fs, hob, hn⟩, fun c1 => ?_, fun c1 => k2 (fun z => c1 z.1)⟩
    refine ⟨_, rfl, _, _, rfl, rfl, _, _, _, rfl, .inl ⟨g, rfl, _, rfl, ?_⟩⟩
    by_cases c : 0 ≤ g ∧ g < 8
    · rw [decide_eq_true c.1, decide_eq_true (show g ≤ 8 - 1 by omega)]
      exact iteF (k1 ⟨c1, c⟩)
    · have e : (decide (0 ≤ g) && decide (g ≤ 8 - 1)) = false := by
        rw [Bool.and_eq_false_iff, decide_eq_false_iff_not, decide_eq_false_iff_not]; omega
      rw [e]
      exact iteT (k2 fun z => c z.2)
theorem scPow : FnScope ["self"] ["self"] (defScope (cF 10)) := ⟨rfl, rfl, rfl, by decide +kernel, rfl, by decide +kernel, by decide +kernel⟩
theorem ok_pow (F : Fun K "_check_power" "Flash._check_power" (cF 10) f fd) (T : FT K mg C CN CP CS fW fB) : FnOk P wd K mg base (L2.CX P wd) 1 f fd ["self"] (spPow C CP) := by
  refine F.okX scPow (fun vs H Q E h => ?_) (fun cdv A outer s H vs Q E hr h => ?_)
  · obtain ⟨p, pw, dx, fs, rfl, _⟩ := h
    rfl
  · obtain ⟨p, pw, dx, fs, rfl, hob, hl, k1, k2⟩ := h
    refine ⟨_, pss_one (ps_if (pt_not (pt_val (pe_fld (pv 0) rfl))) (pss_one (ps_powerOff T rfl (takes_of rfl rfl rfl rfl) (by rfl))) pss_nil), ?_⟩
    refine ⟨_, rfl, p, C, dx, _, _, rfl, hob, T.cl, T.n4, hl, pw, rfl, ?_⟩
    cases pw with
    | true => exact iteF (k1 rfl)
    | false => exact iteT (k2 rfl)
/-- an operation: the power is off, or it fails in this one, or the operation is carried out -/
def remAfter : V → V
  | .int r => .int (r - 1)
  | v => v
/-- what becomes of an operation (pg, cv as in Carried): E of an error that leaves it, Kt of the heap behind it -/
def Opered (C CP : Addr) (H : Hp) (p w c : Addr) (as : List Addr) (ws : List Int) (ps : List (List V)) (pw : Bool) (rm it : V) (b : Nat) (pg cv : V) (E : XK) (Kt : Hp → Prop) : Prop :=
  (pw = false → E (.ref CP) Option.none H) ∧
  (pw = true → rm = .int 0 → ∀ t H', H t = Option.none → H' t = some (.tup [.int (b : Int), pg, cv]) → FlashAt C H' p w c as ws ps false (.int 0) (.ref t) → Off [p] H H' → Tups H H' → E (.ref CP) Option.none H') ∧
  (pw = true → rm ≠ .int 0 → ∀ H', FlashAt C H' p w c as ws ps pw (remAfter rm) it → Off [p] H H' → Tups H H' → Carried C H' p w c as ws ps pw (remAfter rm) it b pg cv Kt)
def spOper (C CP : Addr) : Sp := fun vs H Q E => ∃ p w c as ws ps pw rm it b pg cv, vs = [.ref p, .int ((b : Nat) : Int), pg, cv] ∧ FlashAt C H p w c as ws ps pw rm it ∧ b < ps.length ∧ (rm = .non ∨ ∃ r, rm = .int r) ∧
  Opered C CP H p w c as ws ps pw rm it b pg cv E (Q .non)
theorem scOper : FnScope ["self", "block", "page", "content"] ["self", "block", "page", "content"] (defScope (cF 11)) := ⟨rfl, rfl, rfl, by decide +kernel, rfl, by decide +kernel, by decide +kernel⟩
theorem FlashAt.fields {H : Hp} {p w c : Addr} {as : List Addr} {ws : List Int} {ps : List (List V)} {pw pw' : Bool} {rm it rm' it' : V} {dx : Addr} {o : HO} (F : FlashAt C H p w c as ws ps pw rm it) (hp : H p = some (.ins C dx (ff (ps.length : Int) w c pw rm it)))
    (e : o = .ins C dx (ff (ps.length : Int) w c pw' rm' it')) : FlashAt C (upd H p o) p w c as ws ps pw' rm' it' ∧ Off [p] H (upd H p o) ∧ Tups H (upd H p o) := by
  subst e
  refine ⟨⟨⟨dx, upd_same⟩, ?_, ?_, F.lw, F.pg.mono (Tups.ins hp), F.nwc, F.nwa⟩, fun b o ho hb => ?_, Tups.ins hp⟩
  · rw [upd_ne (ne_of F.wl hp (by intro z; cases z))]; exact F.wl
  · refine F.gr.keep (fun o h => ?_) (fun a ha o h => ?_)
    · rw [upd_ne (ne_of F.gr.ls hp (by intro z; cases z))]; exact h
    · obtain ⟨j, hj⟩ := List.getElem?_of_mem ha
      have hjl : j < ps.length := by rw [← F.gr.len]; exact (List.getElem?_eq_some_iff.mp hj).1
      rw [upd_ne (ne_of (F.gr.rows j a _ hj (List.getElem?_eq_getElem hjl)) hp (by intro z; cases z))]; exact h
  · rw [upd_ne (by simpa using hb)]; exact ho
theorem ok_oper (F : Fun K "_operate" "Flash._operate" (cF 11) f fd) (T : FT K mg C CN CP CS fW fB) 
    (Gk : FnOk P wd K mg base (L2.CX P wd) 1 fk fdk ["self"] (spPow C CP)) (bk : Binds K fdk ["self"] []) (mk : Meth K C "_check_power" fk)
    (Gk2 : FnOk P wd K mg base CX0 1 fk2 fdk2 ["self", "block", "page", "content"] (spCarry C)) (bk2 : Binds K fdk2 ["self", "block", "page", "content"] []) (mk2 : Meth K C "_carry_out" fk2) : FnOk P wd K mg base (L2.CX P wd) 2 f fd ["self", "block", "page", "content"] (spOper C CP) := by
  refine F.okX scOper (fun vs H Q E h => ?_) (fun cdv A outer s H vs Q E hr h => ?_)
  · obtain ⟨p, w, c, as, ws, ps, pw, rm, it, b, pg, cv, rfl, _⟩ := h
    rfl
  · obtain ⟨p, w, c, as, ws, ps, pw, rm, it, b, pg, cv, rfl, FA, hb, hrm, k1, k2, k3⟩ := h
    obtain ⟨dx, hob⟩ := id FA.ob
    refine ⟨_, pss_cons (ps_expr (pe_meth0 (pv 0) T.cl mk Gk hr bk .nil (passX (E := E) (takes_of rfl rfl rfl rfl) (fun _ _ _ _ z => z))))
      (pss_cons (ps_if (pt_cmpR op_eq (pe_fld (pv 0) rfl) pe_int (nomark _))
        (pss_cons (ps_fld (pv 0) pe_bl rfl) (pss_cons (ps_fld (pv 0) (pe_tup (pa_cons (pv 1) (pa_cons (pv 2) (pa_cons (pv 3) pa_nil)))) rfl) (pss_one (ps_powerOff T rfl (takes_of rfl rfl rfl rfl) (by rfl))))) pss_nil)
      (pss_cons (ps_if (pt_cmpR op_notN (pe_fld (pv 0) rfl) pe_non (nomark _)) (pss_one (ps_fldaug (pv 0) pe_int in_sub)) pss_nil)
      (pss_one (ps_expr (pe_meth (pv 0) T.cl mk2 Gk2 hr bk2 .nil pass0 (pa_cons (pv 1) (pa_cons (pv 2) (pa_cons (pv 3) pa_nil)))))))), ?_⟩
    refine ⟨_, rfl, p, dx, _, rfl, hob, ff_no (by decide +kernel), p, pw, dx, _, rfl, hob, ff_powered, fun hp => ?_, k1⟩
    subst hp
    refine ⟨_, rfl, p, C, dx, _, _, rfl, hob, T.cl, T.n5, ff_remaining, ?_⟩
    rcases hrm with rfl | ⟨r, rfl⟩
    · -- None
      refine ⟨rfl, _, rfl, ?_⟩
      rw [decide_eq_false (by intro z; cases z)]
      refine iteF ?_
      refine ⟨_, rfl, p, C, dx, _, _, rfl, hob, T.cl, T.n5, ff_remaining, rfl, _, rfl, ?_⟩
      rw [decide_eq_true rfl]
      refine iteF ?_
      exact ⟨_, rfl, p, dx, _, rfl, hob, ff_no (by decide +kernel), _, rfl, _, rfl, _, rfl, p, w, c, as, ws, ps, true, .non, it, b, pg, cv, rfl, FA, hb, k3 rfl (by intro z; cases z) H FA (fun _ _ h _ => h) (fun _ _ h => h)⟩
    · refine ⟨rfl, _, rfl, ?_⟩
      by_cases c0 : r = 0
      · subst c0
        rw [decide_eq_true rfl]
        refine iteT ?_
        have hlen : ∀ {pw : Bool} {rm it : V}, (ff (ps.length : Int) w c pw rm it).length < 1000 := ff_len
        refine ⟨_, rfl, p, C, dx, _, rfl, hob, T.cl, T.n4, ff_len, _, rfl, _, rfl, _, rfl, by show 3 ≤ sizeLine; decide, fun t ht => ?_⟩
        have npt : p ≠ t := ne_of_none (upd_same (H := H) (a := p) (o := .ins C dx (putF "_powered" (.bl false) (ff (ps.length : Int) w c true (.int 0) it)))) ht
        refine ⟨_, rfl, p, C, dx, _, rfl, (by rw [upd_ne npt]; exact upd_same), T.cl, T.n6, (by rw [ff_putP]; exact ff_len), ?_⟩
        have htH : H t = Option.none := by rw [upd_ne npt.symm] at ht; exact ht
        rw [ff_putP, ff_putI]
        obtain ⟨A1, A2, A3⟩ := FA.fields (o := .ins C dx (ff (ps.length : Int) w c false (.int 0) (.ref t))) (pw' := false) (rm' := .int 0) (it' := .ref t) hob rfl
        have eH : upd (upd (upd H p (.ins C dx (ff (ps.length : Int) w c false (.int 0) it))) t (.tup [.int (b : Int), pg, cv])) p (.ins C dx (ff (ps.length : Int) w c false (.int 0) (.ref t))) = upd (upd H p (.ins C dx (ff (ps.length : Int) w c false (.int 0) (.ref t)))) t (.tup [.int (b : Int), pg, cv]) := by
          funext x
          unfold upd
          by_cases h1 : x = p
          · subst h1; rw [if_pos rfl, if_neg npt, if_pos rfl]
          · rw [if_neg h1]
            by_cases h2 : x = t
            · rw [if_pos h2, if_pos h2]
            · rw [if_neg h2, if_neg h1, if_neg h2, if_neg h1]
        rw [eH]
        have hfree : (upd H p (.ins C dx (ff (ps.length : Int) w c false (.int 0) (.ref t)))) t = Option.none := by rw [upd_ne npt.symm]; exact htH
        have sm := same_new (o := .tup [.int (b : Int), pg, cv]) hfree
        refine k2 rfl rfl t _ htH upd_same ⟨?_, ?_, A1.gr.same sm, A1.lw, A1.pg.mono (same_tups sm), A1.nwc, A1.nwa⟩ (fun x o hx hn => sm _ _ (A2 x o hx hn)) (A3.trans (same_tups sm))
        · obtain ⟨dx', h'⟩ := A1.ob
          exact ⟨dx', sm _ _ h'⟩
        · exact sm _ _ A1.wl
      · rw [decide_eq_false (by intro z; cases z; exact c0 rfl)]
        refine iteF ?_
        refine ⟨_, rfl, p, C, dx, _, _, rfl, hob, T.cl, T.n5, ff_remaining, rfl, _, rfl, ?_⟩
        rw [decide_eq_false (by intro z; cases z)]
        refine iteT ?_
        refine ⟨_, rfl, p, C, dx, _, _, rfl, hob, T.cl, T.n5, ff_remaining, _, _, rfl, rfl, dx, _, hob, ff_len, ?_⟩
        rw [ff_putR]
        obtain ⟨A1, A2, A3⟩ := FA.fields (o := .ins C dx (ff (ps.length : Int) w c true (.int (r - 1)) it)) (pw' := true) (rm' := .int (r - 1)) (it' := it) hob rfl
        refine ⟨_, rfl, p, dx, _, rfl, upd_same, ff_no (by decide +kernel), _, rfl, _, rfl, _, rfl, p, w, c, as, ws, ps, true, .int (r - 1), it, b, pg, cv, rfl, A1, hb, k3 rfl (by intro z; cases z; exact c0 rfl) _ A1 A2 A3⟩
end
end Sg

set_option Elab.async false
set_option linter.all false
set_option maxRecDepth 100000
set_option maxHeartbeats 4000000
namespace Sg
open PySem PySem.Spec PyProof.Rows L2
abbrev sFirst : Stmt := top 17
theorem hu65 {k : Nat} {A : Around} (hr : Room k A) : A.units + 65 < cLine := by have := hr.un; omega
theorem yesIte {σ : L2.St} {H : Hp} {A B : Hp → Prop} (h : A H) : tYes σ H (fun b H3 => if b = true then A H3 else B H3) := by
  show (if true = true then A H else B H)
  rw [if_pos rfl]; exact h
def rListOf (K : PySem.W.Frag) : List V → Hp → VK → Prop := fun xs H Q => ∃ p ys, xs = [.ref p] ∧ (SqL K H p ys ∨ SqT K H p ys) ∧ ∀ l, H l = Option.none → Q (.ref l) (upd H l (.lst ys))
theorem call_listOf {X : Cx} : CallR X (.type "list") (rListOf X.K) := call_list_of
def spFirst : Sp := fun vs H Q _ => ∃ a xs, vs = [.ref a] ∧ H a = some (.lst (row xs)) ∧ PgsN H xs ∧ Q (.int (xs.length : Int)) H
def ImgNew (H0 H : Hp) (r : Addr) (ws : List Int) (ps : List (List V)) : Prop := H0 r = Option.none ∧ ∃ tr : List Addr, H r = some (.lst (tr.map V.ref)) ∧ tr.length = ps.length ∧
  ∀ (i : Nat) (t : Addr), tr[i]? = some t → ∃ (wv : Int) (c : Addr) (vs : List V), ws[i]? = some wv ∧ ps[i]? = some vs ∧ H t = some (.tup [.int wv, .ref c]) ∧ H c = some (.lst (row vs)) ∧ H0 t = Option.none ∧ H0 c = Option.none
theorem ImgNew.at_ {H0 H : Hp} {r : Addr} {ws : List Int} {ps : List (List V)} (h : ImgNew H0 H r ws ps) : ImgAt H r ws ps := by
  obtain ⟨_, tr, h1, h2, h3⟩ := h
  refine ⟨tr, h1, h2, fun i t ht => ?_⟩
  obtain ⟨wv, c, vs, a, b, d, e, _, _⟩ := h3 i t ht
  exact ⟨wv, c, vs, a, b, d, e⟩
def spRead (C CN CP : Addr) : Sp := fun vs H Q E => ∃ p w c as ws ps pw rm it b g, vs = [.ref p, .int b, .int g] ∧ FlashAt C H p w c as ws ps pw rm it ∧
  (¬ ((0 ≤ b ∧ b < (ps.length : Int)) ∧ (0 ≤ g ∧ g < 8)) → E (.ref CN) Option.none H) ∧
  (∀ (j i : Nat) vs v, b = (j : Int) → g = (i : Int) → ps[j]? = some vs → (row vs)[i]? = some v → (pw = false → E (.ref CP) Option.none H) ∧ (pw = true → Q v H))
def spWear (C CN : Addr) : Sp := fun vs H Q E => ∃ p w c as ws ps pw rm it b, vs = [.ref p, .int b] ∧ FlashAt C H p w c as ws ps pw rm it ∧
  (¬ (0 ≤ b ∧ b < (ps.length : Int)) → E (.ref CN) Option.none H) ∧ (∀ (j : Nat) wv, b = (j : Int) → ws[j]? = some wv → Q (.int wv) H)
def spErase (C CN CP : Addr) : Sp := fun vs H Q E => ∃ p w c as ws ps pw rm it b, vs = [.ref p, .int b] ∧ FlashAt C H p w c as ws ps pw rm it ∧ (rm = .non ∨ ∃ r, rm = .int r) ∧
  (¬ (0 ≤ b ∧ b < (ps.length : Int)) → E (.ref CN) Option.none H) ∧ (∀ j : Nat, b = (j : Int) → j < ps.length → Opered C CP H p w c as ws ps pw rm it j .non .non E (Q .non))
/-- a record: a tuple, or something else -/
def spProg (K : PySem.W.Frag) (C CN CP : Addr) : Sp := fun vs H Q E => ∃ p w c as ws ps pw rm it b g rv tv isT, vs = [.ref p, .int b, .int g, rv] ∧ FlashAt C H p w c as ws ps pw rm it ∧ (rm = .non ∨ ∃ r, rm = .int r) ∧
  TyX K H rv tv ∧ PySem.W.kitOne K tv (.type "tuple") = some isT ∧
  (¬ ((0 ≤ b ∧ b < (ps.length : Int)) ∧ (0 ≤ g ∧ g < 8) ∧ isT = true ∧ ∃ (j : Nat) (vs : List V), b = (j : Int) ∧ ps[j]? = some vs ∧ g = (vs.length : Int)) → E (.ref CN) Option.none H) ∧
  (∀ (j : Nat) (vs : List V), b = (j : Int) → ps[j]? = some vs → g = (vs.length : Int) → vs.length < 8 → isT = true → Opered C CP H p w c as ws ps pw rm it j (.int (vs.length : Int)) rv E (Q .non))
def spImage (C : Addr) : Sp := fun vs H Q _ => ∃ p w c as ws ps pw rm it, vs = [.ref p] ∧ FlashAt C H p w c as ws ps pw rm it ∧ ps.length ≤ 100 ∧ ∀ r H', Same H H' → ImgNew H H' r ws ps → Q (.ref r) H'
def spInit (C CN : Addr) : Sp := fun vs H Q E => ∃ p dx n, vs = [.ref p, .int n] ∧ H p = some (.ins C dx []) ∧
  (∀ m : Nat, n = (m : Int) → 8 ≤ m → m ≤ 24 → ∀ w c as H', FlashAt C H' p w c as (List.replicate m 0) (List.replicate m []) true .non .non → H w = Option.none → H c = Option.none → (∀ a ∈ as, H a = Option.none) → Off [p] H H' → Tups H H' → Q .non H') ∧
  (¬ (8 ≤ n ∧ n ≤ 24) → E (.ref CN) Option.none H)
section
variable {P : Program} {wd : World} {K : PySem.W.Frag} {mg : Str → Option Value} {base : Heap} {f C CN CP CS fW fB fk fk2 fk3 fk4 : Addr} {fd fdB fdW fdk fdk2 fdk3 fdk4 : FuncData}
theorem scFirst : FnScope ["pages"] ["pages"] (defScope sFirst) := ⟨rfl, rfl, rfl, by decide +kernel, rfl, by decide +kernel, by decide +kernel⟩
theorem ok_first (F : Fun K "first_erased" "first_erased" sFirst f fd) (T : FT K mg C CN CP CS fW fB) : FnOk P wd K mg base CX0 1 f fd ["pages"] spFirst := by
  obtain ⟨tk, hpag⟩ := T.pag
  refine F.ok scFirst (fun vs H Q E h => ?_) (fun cdv A outer s H vs Q E hr h => ?_)
  · obtain ⟨a, xs, rfl, _⟩ := h
    rfl
  · obtain ⟨a, xs, rfl, ha, hx, q⟩ := h
    refine ⟨_, pss_one (ps_ret (pe_op op_sub (pe_glob (v := .int 8) (by rfl) hpag ⟨_, rfl⟩) (pe_bm PySem.F.plainAttrs_list PySem.F.slot_list_count PySem.F.type_list_count (mt_countD (hu65 hr)) (pv 0) (pa_cons pe_non pa_nil)))), ?_⟩
    obtain ⟨ds, d1, d2, d3, d4⟩ := row_dp (K := K) hx
    refine ⟨_, rfl, .inl ⟨rfl, _, SqL.of ha⟩, a, .non, .none, ds, rfl, rfl, .lst (SqL.of ha) d1, .non, shaped_list d2 (by omega), by decide, _, _, rfl, rfl, ?_⟩
    have e : (8 : Int) - ((ds.countP (fun z => PyData.eqv z .none) : Nat) : Int) = (xs.length : Int) := by
      have := hx.1
      rw [d4]; omega
    show Q (.int ((8 : Int) - ((ds.countP (fun z => PyData.eqv z .none) : Nat) : Int))) H
    rw [e]; exact q
theorem FlashAt.ckP {H : Hp} {p w c : Addr} {as : List Addr} {ws : List Int} {ps : List (List V)} {pw : Bool} {rm it : V} (F : FlashAt C H p w c as ws ps pw rm it) : ∃ dx fs, H p = some (.ins C dx fs) ∧ fs.lookup ("blocks" : Str) = some (.int (ps.length : Int)) ∧ fs.lookup ("_check_block" : Str) = Option.none := by
  obtain ⟨dx, h⟩ := F.ob
  exact ⟨dx, _, h, ff_blocks, ff_no (by decide +kernel)⟩
theorem scRead : FnScope ["self", "block", "page"] ["self", "block", "page"] (defScope (cF 1)) := ⟨rfl, rfl, rfl, by decide +kernel, rfl, by decide +kernel, by decide +kernel⟩
theorem ok_read (F : Fun K "read" "Flash.read" (cF 1) f fd) (T : FT K mg C CN CP CS fW fB)
    (Gk : FnOk P wd K mg base (L2.CX P wd) 4 fk fdk ["self", "block", "page"] (spCkP C CN)) (bk : Binds K fdk ["self", "block", "page"] []) (mk : Meth K C "_check_page" fk)
    (Gk2 : FnOk P wd K mg base (L2.CX P wd) 1 fk2 fdk2 ["self"] (spPow C CP)) (bk2 : Binds K fdk2 ["self"] []) (mk2 : Meth K C "_check_power" fk2) : FnOk P wd K mg base (L2.CX P wd) 5 f fd ["self", "block", "page"] (spRead C CN CP) := by
  refine F.okX scRead (fun vs H Q E h => ?_) (fun cdv A outer s H vs Q E hr h => ?_)
  · obtain ⟨p, w, c, as, ws, ps, pw, rm, it, b, g, rfl, _⟩ := h
    rfl
  · obtain ⟨p, w, c, as, ws, ps, pw, rm, it, b, g, rfl, FA, k1, k2⟩ := h
    obtain ⟨dx, hob⟩ := id FA.ob
    have hr1 : Room 1 _ := hr.mono (by decide)
    refine ⟨_, pss_cons (ps_expr (pe_meth (pv 0) T.cl mk Gk hr bk .nil (passX (E := E) (takes_of rfl rfl rfl rfl) (fun _ _ _ _ z => z)) (pa_cons (pv 1) (pa_cons (pv 2) pa_nil))))
      (pss_cons (ps_expr (pe_meth0 (pv 0) T.cl mk2 Gk2 hr1 bk2 .nil (passX (E := E) (takes_of rfl rfl rfl rfl) (fun _ _ _ _ z => z))))
      (pss_one (ps_ret (pe_ix ix_list (pe_ix ix_list (pe_fld (pv 0) rfl) (pv 1) (fun _ _ => rfl)) (pv 2) (fun _ _ => rfl))))), ?_⟩
    refine ⟨_, rfl, p, dx, _, rfl, hob, ff_no (by decide +kernel), _, rfl, _, rfl, p, _, b, g, rfl, FA.ckP, fun ⟨hb, hg⟩ => ?_, k1⟩
    obtain ⟨j, rfl⟩ : ∃ j : Nat, b = (j : Int) := ⟨b.toNat, by omega⟩
    obtain ⟨i, rfl⟩ : ∃ i : Nat, g = (i : Int) := ⟨g.toNat, by omega⟩
    have hj : j < ps.length := by omega
    have hvs : ps[j]? = some ps[j] := List.getElem?_eq_getElem hj
    obtain ⟨a, ha, hrow⟩ := FA.gr.at hvs
    have h8 := row_len (FA.pg _ (List.mem_of_getElem? hvs)).1
    have hi : i < (row ps[j]).length := by rw [h8]; omega
    have hv : (row ps[j])[i]? = some (row ps[j])[i] := List.getElem?_eq_getElem hi
    obtain ⟨k3, k4⟩ := k2 j i _ _ rfl rfl hvs hv
    refine ⟨_, rfl, p, dx, _, rfl, hob, ff_no (by decide +kernel), p, pw, dx, _, rfl, hob, ff_powered, fun hp => ?_, k3⟩
    refine ⟨_, rfl, p, C, dx, _, _, rfl, hob, T.cl, T.n3, ff_contents, _, rfl, c, _, _, _, rfl, rfl, SqL.of FA.gr.ls, atI_nat (get_map ha), _, rfl, a, _, _, _, rfl, rfl, SqL.of hrow, atI_nat hv, k4 hp⟩
theorem scWear : FnScope ["self", "block"] ["self", "block"] (defScope (cF 4)) := ⟨rfl, rfl, rfl, by decide +kernel, rfl, by decide +kernel, by decide +kernel⟩
theorem ok_wear (F : Fun K "wear" "Flash.wear" (cF 4) f fd) (T : FT K mg C CN CP CS fW fB)
    (Gk : FnOk P wd K mg base (L2.CX P wd) 3 fk fdk ["self", "block"] (spCkB C CN)) (bk : Binds K fdk ["self", "block"] []) (mk : Meth K C "_check_block" fk) : FnOk P wd K mg base (L2.CX P wd) 4 f fd ["self", "block"] (spWear C CN) := by
  refine F.okX scWear (fun vs H Q E h => ?_) (fun cdv A outer s H vs Q E hr h => ?_)
  · obtain ⟨p, w, c, as, ws, ps, pw, rm, it, b, rfl, _⟩ := h
    rfl
  · obtain ⟨p, w, c, as, ws, ps, pw, rm, it, b, rfl, FA, k1, k2⟩ := h
    obtain ⟨dx, hob⟩ := id FA.ob
    refine ⟨_, pss_cons (ps_expr (pe_meth (pv 0) T.cl mk Gk hr bk .nil (passX (E := E) (takes_of rfl rfl rfl rfl) (fun _ _ _ _ z => z)) (pa_cons (pv 1) pa_nil)))
      (pss_one (ps_ret (pe_ix ix_list (pe_fld (pv 0) rfl) (pv 1) (fun _ _ => rfl)))), ?_⟩
    refine ⟨_, rfl, p, dx, _, rfl, hob, ff_no (by decide +kernel), _, rfl, p, _, b, rfl, FA.blk, fun hb => ?_, k1⟩
    obtain ⟨j, rfl⟩ : ∃ j : Nat, b = (j : Int) := ⟨b.toNat, by omega⟩
    have hj : j < ws.length := by have := FA.lw; omega
    have hv : ws[j]? = some ws[j] := List.getElem?_eq_getElem hj
    exact ⟨_, rfl, p, C, dx, _, _, rfl, hob, T.cl, T.n2, ff_wears, _, rfl, w, _, _, _, rfl, rfl, SqL.of FA.wl, atI_nat (get_map hv), k2 j _ rfl hv⟩
theorem scErase : FnScope ["self", "block"] ["self", "block"] (defScope (cF 3)) := ⟨rfl, rfl, rfl, by decide +kernel, rfl, by decide +kernel, by decide +kernel⟩
theorem ok_erase (F : Fun K "erase" "Flash.erase" (cF 3) f fd) (T : FT K mg C CN CP CS fW fB)
    (Gk : FnOk P wd K mg base (L2.CX P wd) 3 fk fdk ["self", "block"] (spCkB C CN)) (bk : Binds K fdk ["self", "block"] []) (mk : Meth K C "_check_block" fk)
    (Gk2 : FnOk P wd K mg base (L2.CX P wd) 2 fk2 fdk2 ["self", "block", "page", "content"] (spOper C CP)) (bk2 : Binds K fdk2 ["self", "block", "page", "content"] []) (mk2 : Meth K C "_operate" fk2) : FnOk P wd K mg base (L2.CX P wd) 4 f fd ["self", "block"] (spErase C CN CP) := by
  refine F.okX scErase (fun vs H Q E h => ?_) (fun cdv A outer s H vs Q E hr h => ?_)
  · obtain ⟨p, w, c, as, ws, ps, pw, rm, it, b, rfl, _⟩ := h
    rfl
  · obtain ⟨p, w, c, as, ws, ps, pw, rm, it, b, rfl, FA, hrm, k1, k2⟩ := h
    obtain ⟨dx, hob⟩ := id FA.ob
    have hr2 : Room 2 _ := hr.mono (by decide)
    refine ⟨_, pss_cons (ps_expr (pe_meth (pv 0) T.cl mk Gk hr bk .nil (passX (E := E) (takes_of rfl rfl rfl rfl) (fun _ _ _ _ z => z)) (pa_cons (pv 1) pa_nil)))
      (pss_one (ps_expr (pe_meth (pv 0) T.cl mk2 Gk2 hr2 bk2 .nil (passX (E := E) (takes_of rfl rfl rfl rfl) (fun _ _ _ _ z => z)) (pa_cons (pv 1) (pa_cons pe_non (pa_cons pe_non pa_nil)))))), ?_⟩
    refine ⟨_, rfl, p, dx, _, rfl, hob, ff_no (by decide +kernel), _, rfl, p, _, b, rfl, FA.blk, fun hb => ?_, k1⟩
    obtain ⟨j, rfl⟩ : ∃ j : Nat, b = (j : Int) := ⟨b.toNat, by omega⟩
    have hj : j < ps.length := by omega
    exact ⟨_, rfl, p, dx, _, rfl, hob, ff_no (by decide +kernel), _, rfl, p, w, c, as, ws, ps, pw, rm, it, j, .non, .non, rfl, FA, hj, hrm, k2 j rfl hj⟩
theorem scProg : FnScope ["self", "block", "page", "record"] ["self", "block", "page", "record"] (defScope (cF 2)) := ⟨rfl, rfl, rfl, by decide +kernel, rfl, by decide +kernel, by decide +kernel⟩
theorem ok_prog (F : Fun K "program" "Flash.program" (cF 2) f fd) (T : FT K mg C CN CP CS fW fB)
    (Gk : FnOk P wd K mg base (L2.CX P wd) 4 fk fdk ["self", "block", "page"] (spCkP C CN)) (bk : Binds K fdk ["self", "block", "page"] []) (mk : Meth K C "_check_page" fk)
    (Gk2 : FnOk P wd K mg base (L2.CX P wd) 2 fk2 fdk2 ["self", "block", "page", "content"] (spOper C CP)) (bk2 : Binds K fdk2 ["self", "block", "page", "content"] []) (mk2 : Meth K C "_operate" fk2)
    (Gk3 : FnOk P wd K mg base CX0 1 fk3 fdk3 ["pages"] spFirst) (bk3 : Binds K fdk3 ["pages"] []) (kk3 : PySem.W.keepIn K (.ref fk3) = true) (mk3 : mg "first_erased" = some (.ref fk3)) : FnOk P wd K mg base (L2.CX P wd) 5 f fd ["self", "block", "page", "record"] (spProg K C CN CP) := by
  refine F.okX scProg (fun vs H Q E h => ?_) (fun cdv A outer s H vs Q E hr h => ?_)
  · obtain ⟨p, w, c, as, ws, ps, pw, rm, it, b, g, rv, tv, isT, rfl, _⟩ := h
    rfl
  · obtain ⟨p, w, c, as, ws, ps, pw, rm, it, b, g, rv, tv, isT, rfl, FA, hrm, ty, kit, k1, k2⟩ := h
    obtain ⟨dx, hob⟩ := id FA.ob
    have hr2 : Room 2 _ := hr.mono (by decide)
    have hr1 : Room 1 _ := hr.mono (by decide)
    refine ⟨_, pss_cons (ps_expr (pe_meth (pv 0) T.cl mk Gk hr bk .nil (passX (E := E) (takes_of rfl rfl rfl rfl) (fun _ _ _ _ z => z)) (pa_cons (pv 1) (pa_cons (pv 2) pa_nil))))
      (pss_cons (ps_if (PW.pt (pw_or (pt_not (pt_val (pe_callB call_isi (by rfl) T.bd.isi boot_isi (pa_cons (pv 3) (pa_cons (pe_bltn (v := .ty "tuple") (by rfl) T.tup boot_tuple rfl) pa_nil)))))
          (pw_or1 (pt_cmpR op_ne (pv 2) (pe_call Gk3 hr1 (by rfl) mk3 kk3 bk3 .nil pass0 (pa_cons (pe_ix ix_list (pe_fld (pv 0) rfl) (pv 1) (fun _ _ => rfl)) pa_nil)) (nomark _)))))
        (pss_one (ps_notValid T rfl (takes_of rfl rfl rfl rfl) (by rfl))) pss_nil)
      (pss_one (ps_expr (pe_meth (pv 0) T.cl mk2 Gk2 hr2 bk2 .nil (passX (E := E) (takes_of rfl rfl rfl rfl) (fun _ _ _ _ z => z)) (pa_cons (pv 1) (pa_cons (pv 2) (pa_cons (pv 3) pa_nil))))))), ?_⟩
    refine ⟨_, rfl, p, dx, _, rfl, hob, ff_no (by decide +kernel), _, rfl, _, rfl, p, _, b, g, rfl, FA.ckP, fun ⟨hb, hg⟩ => ?_, fun hn => k1 fun z => hn ⟨z.1, z.2.1⟩⟩
    obtain ⟨j, rfl⟩ : ∃ j : Nat, b = (j : Int) := ⟨b.toNat, by omega⟩
    have hj : j < ps.length := by omega
    have hvs : ps[j]? = some ps[j] := List.getElem?_eq_getElem hj
    obtain ⟨a, ha, hrow⟩ := FA.gr.at hvs
    refine ⟨_, rfl, rv, _, tv, _, isT, rfl, .ty "tuple", ty, kit, isT, rfl, ?_⟩
    cases isT with
    | false => exact iteT (iteT (k1 fun z => by cases z.2.2.1))
    | true =>
      refine iteF ?_
      refine ⟨_, rfl, _, rfl, p, C, dx, _, _, rfl, hob, T.cl, T.n3, ff_contents, _, rfl, c, _, _, _, rfl, rfl, SqL.of FA.gr.ls, atI_nat (get_map ha), a, _, rfl, hrow, FA.pg _ (List.mem_of_getElem? hvs), rfl, _, rfl, ?_⟩
      by_cases cg : g = (ps[j].length : Int)
      · subst cg
        rw [decide_eq_true rfl]
        refine iteF ?_
        refine ⟨_, rfl, p, dx, _, rfl, hob, ff_no (by decide +kernel), _, rfl, _, rfl, _, rfl, p, w, c, as, ws, ps, pw, rm, it, j, _, rv, rfl, FA, hj, hrm, k2 j _ rfl hvs rfl (by omega) rfl⟩
      · rw [decide_eq_false (by intro z; cases z; exact cg rfl)]
        refine iteT (k1 fun ⟨_, _, _, j', vs', e1, e2, e3⟩ => cg ?_)
        have : j' = j := by omega
        subst this
        rw [hvs] at e2; cases e2; exact e3
theorem scImage : FnScope ["self", "block"] ["self"] (defScope (cF 7)) := ⟨rfl, rfl, rfl, by decide +kernel, rfl, by decide +kernel, by decide +kernel⟩
theorem ok_image (F : Fun K "image" "Flash.image" (cF 7) f fd) (T : FT K mg C CN CP CS fW fB) : FnOk P wd K mg base CX0 1 f fd ["self"] (spImage C) := by
  refine F.ok scImage (fun vs H Q E h => ?_) (fun cdv A outer s H vs Q E hr h => ?_)
  · obtain ⟨p, w, c, as, ws, ps, pw, rm, it, rfl, _⟩ := h
    rfl
  · obtain ⟨p, w, c, as, ws, ps, pw, rm, it, rfl, FA, hsz, k⟩ := h
    obtain ⟨dx, hob⟩ := id FA.ob
    refine ⟨_, pss_one (ps_ret (pe_lc (own := [("block", 1)]) (g := gName 1) (tt := tYes) (te := tTup (tCons (tOp (rIxL K) (tFld K (tVar 0) "_wears") (tVar 1)) (tCons (tCB (rListOf K) (tCons (tOp (rIxL K) (tFld K (tVar 0) "_contents") (tVar 1)) tNil)) tNil))) (by rfl) scImage.nd (pi_range1 (by rfl) T.bt.range (pa_cons (pe_fld (pv 0) rfl) pa_nil)) (blkOk_by (own := [("block", 1)]) (N := ["self", "block"]) (sc := defScope (cF 7)) (by decide +kernel))
      (fun _ _ _ _ _ => pg_name (i := 1) scImage.nd rfl (Or.inl rfl)) (fun _ _ _ _ _ => pts_nil)
      (fun _ _ _ _ _ => by exact (pe_tup (pa_cons (pe_ix ix_list (pe_fld (pv 0) rfl) (pv 1) (fun _ _ => rfl)) (pa_cons (pe_callTy call_listOf (by rfl) T.lst boot_list (pa_cons (pe_ix ix_list (pe_fld (pv 0) rfl) (pv 1) (fun _ _ => rfl)) pa_nil)) pa_nil)))))), ?_⟩
    refine ⟨_, rfl, p, C, dx, _, _, rfl, hob, T.cl, T.n1, ff_blocks, _, rfl, by omega, by omega, fun D hD => ?_⟩
    refine lc_range (lo := 0) (n := ((ps.length : Int)).toNat) (fun i H' => i ≤ ps.length ∧ Same H H' ∧ ∃ tr : List Addr, H' D = some (.lst (tr.map V.ref)) ∧ tr.length = i ∧
      ∀ (i : Nat) (t : Addr), tr[i]? = some t → ∃ (wv : Int) (c : Addr) (vs : List V), ws[i]? = some wv ∧ ps[i]? = some vs ∧ H' t = some (.tup [.int wv, .ref c]) ∧ H' c = some (.lst (row vs)) ∧ H t = Option.none ∧ H c = Option.none ∧ c ≠ D) ⟨Nat.zero_le _, same_new hD, [], upd_same, rfl, fun i t h => by simp at h⟩ ?_ ?_
    · rintro i H' hi ⟨_, sm, tr, hDl, hl, ht⟩
      have hip : i < ps.length := by omega
      have hiw : i < ws.length := by rw [FA.lw]; exact hip
      have hvs : ps[i]? = some ps[i] := List.getElem?_eq_getElem hip
      have hwv : ws[i]? = some ws[i] := List.getElem?_eq_getElem hiw
      obtain ⟨a, ha, hrow⟩ := FA.gr.at hvs
      refine ⟨rfl, ?_⟩
      refine yesIte ?_
      have e0 : (0 : Int) + (i : Int) = (i : Int) := by omega
      refine ⟨_, rfl, p, C, dx, _, _, rfl, sm _ _ hob, T.cl, T.n2, ff_wears, _, rfl, w, _, _, _, rfl, rfl, SqL.of (sm _ _ FA.wl), (by rw [e0]; exact atI_nat (get_map hwv)), ?_⟩
      refine ⟨_, rfl, p, C, dx, _, _, rfl, sm _ _ hob, T.cl, T.n3, ff_contents, _, rfl, c, _, _, _, rfl, rfl, SqL.of (sm _ _ FA.gr.ls), (by rw [e0]; exact atI_nat (get_map ha)), a, _, rfl, .inl (SqL.of (sm _ _ hrow)), fun l hl' => ?_⟩
      refine ⟨by show 2 ≤ sizeLine; decide, fun t ht' => ?_⟩
      have nDl : D ≠ l := ne_of_none hDl hl'
      have s2 := same_new (o := .lst (row ps[i])) hl'
      have s3 := same_new (o := .tup [.int ws[i], .ref l]) ht'
      have nDt : D ≠ t := ne_of_none (s2 _ _ hDl) ht'
      have hlH : H l = Option.none := sm.free hl'
      have htH : H t = Option.none := sm.free (s2.free ht')
      have nlt : l ≠ t := ne_of_none upd_same ht'
      refine ⟨_, s3 _ _ (s2 _ _ hDl), ?_, ?_, ?_, tr ++ [t], ?_, ?_, ?_⟩
      · rw [List.length_map, hl]; exact small1000 (by omega)
      · omega
      · intro x o hx
        rw [upd_ne (ne_of_none hx hD)]
        exact s3 _ _ (s2 _ _ (sm _ _ hx))
      · rw [upd_same, List.map_append]; rfl
      · rw [List.length_append, hl]; rfl
      · intro m u hu
        by_cases hm : m < tr.length
        · rw [List.getElem?_append_left hm] at hu
          obtain ⟨wv, c', vs, f1, f2, f3, f4, f5, f6, f7⟩ := ht m u hu
          refine ⟨wv, c', vs, f1, f2, ?_, ?_, f5, f6, f7⟩
          · rw [upd_ne (ne_of f3 hDl (by intro z; cases z))]; exact s3 _ _ (s2 _ _ f3)
          · rw [upd_ne f7]; exact s3 _ _ (s2 _ _ f4)
        · have hm' : m = tr.length := by
            have := (List.getElem?_eq_some_iff.mp hu).1
            rw [List.length_append] at this
            simp only [List.length_cons, List.length_nil] at this
            omega
          subst hm'
          rw [List.getElem?_append_right (Nat.le_refl _), Nat.sub_self] at hu
          have : t = u := by simpa using hu
          subst this
          rw [hl]
          refine ⟨_, l, _, hwv, hvs, ?_, ?_, htH, hlH, nDl.symm⟩
          · rw [upd_ne nDt.symm, upd_same]
          · rw [upd_ne nDl.symm, upd_ne nlt, upd_same]
    · rintro H' ⟨_, sm, tr, hDl, hl, ht⟩
      refine k D H' sm ⟨hD, tr, hDl, by omega, fun i t h => ?_⟩
      obtain ⟨wv, c', vs, f1, f2, f3, f4, f5, f6, f7⟩ := ht i t h
      exact ⟨wv, c', vs, f1, f2, f3, f4, f5, f6⟩
end
end Sg

set_option Elab.async false
set_option linter.all false
set_option maxRecDepth 100000
set_option maxHeartbeats 4000000
namespace Sg
open PySem PySem.Spec PyProof.Rows L2
/-! ### [[None] * 8 for _ in range(n)] -/
abbrev tRow8 : TE := tOp rRep (tLst (tCons (tC .non) tNil)) (tC (.int 8))
theorem row_nil : (List.replicate (8 : Int).toNat [V.non]).flatten = row [] := by decide
theorem rep8 {D : Addr} {n : Nat} {as : List Addr} {H H' : Hp} {q : Addr} (g : Grid H D as (List.replicate n [])) (h0 : H' D = some (.lst ((as ++ [q]).map V.ref))) (h1 : H' q = some (.lst (row []))) (hq : H q = Option.none) (h2 : ∀ a ∈ as, ∀ o, H a = some o → H' a = some o) : Grid H' D (as ++ [q]) (List.replicate (n + 1) []) := by
  have hqn : q ∉ as := fun h => by
    obtain ⟨j, hj⟩ := List.getElem?_of_mem h
    have hjl : j < (List.replicate n ([] : List V)).length := by rw [← g.len]; exact (List.getElem?_eq_some_iff.mp hj).1
    have := g.rows j q _ hj (List.getElem?_eq_getElem hjl)
    rw [hq] at this; cases this
  refine ⟨h0, ?_, ?_, ?_, fun i a vs ha hvs => ?_⟩
  · have := g.len
    simp only [List.length_append, List.length_replicate, List.length_cons, List.length_nil] at this ⊢
    omega
  · rw [List.nodup_append]
    exact ⟨g.nd, by simp, fun a ha b hb => by rw [List.mem_singleton.mp hb]; exact fun e => hqn (e ▸ ha)⟩
  · intro hm
    rcases List.mem_append.mp hm with h | h
    · exact g.nc h
    · exact ne_of_none g.ls hq (List.mem_singleton.mp h)
  · have ev : vs = [] := by
      have := List.mem_of_getElem? hvs
      rw [List.mem_replicate] at this; exact this.2
    subst ev
    by_cases hi : i < as.length
    · rw [List.getElem?_append_left hi] at ha
      have hil : i < (List.replicate n ([] : List V)).length := by rw [← g.len]; exact hi
      have e := g.rows i a [] ha (by rw [List.getElem?_eq_getElem hil, List.getElem_replicate])
      exact h2 a (List.mem_of_getElem? ha) _ e
    · have hm' := (List.getElem?_eq_some_iff.mp ha).1
      rw [List.length_append] at hm'
      simp only [List.length_cons, List.length_nil] at hm'
      have : i = as.length := by omega
      subst this
      rw [List.getElem?_append_right (Nat.le_refl _), Nat.sub_self] at ha
      have : q = a := by simpa using ha
      rw [← this]; exact h1
theorem rows_lc {σ : L2.St} {H1 : Hp} {D : Addr} {vs : List Nat} {j n : Nat} {Qd : Hp → Prop} (hD : H1 D = Option.none) (hw : ∀ x, wipe ((wipe σ vs).set j (some x)) vs = wipe σ vs) (hn : n ≤ 1000)
    (hd : ∀ H' as, Same H1 H' → Grid H' D as (List.replicate n []) → (∀ a ∈ as, H1 a = Option.none) → Qd H') :
    ∃ W : Nat → Nat → Hp → Prop, (∃ m, W 0 m (upd H1 D (.lst []))) ∧ ∀ i m H, W i m H →
      ((Itr 0 n).stop i H ∧ Qd H) ∨ ((Itr 0 n).go i H ∧ ∃ Nx : Hp → Prop, (∀ H', Nx H' → ∃ m', m' < m ∧ W (i + 1) m' H') ∧ ∀ x H', (Itr 0 n).yld i H x H' → gName j x (wipe σ vs) H' fun σ2 H2 => wipe σ2 vs = wipe σ vs ∧ tYes σ2 H2 fun b H3 =>
        if b = true then tRow8 σ2 H3 fun y H4 => ∃ acc, H4 D = some (.lst acc) ∧ acc.length < sizeLine ∧ Nx (upd H4 D (.lst (acc ++ [y]))) else Nx H3) := by
  refine lc_range (lo := 0) (n := n) (fun i H' => i ≤ n ∧ Same H1 H' ∧ ∃ as : List Addr, Grid H' D as (List.replicate i []) ∧ ∀ a ∈ as, H1 a = Option.none)
    ⟨Nat.zero_le _, same_new hD, [], ⟨upd_same, rfl, List.nodup_nil, by simp, fun i a vs h => by simp at h⟩, fun a h => by cases h⟩ ?_ ?_
  · rintro i H' hi ⟨_, sm, as, g, ha⟩
    refine ⟨hw _, yesIte ?_⟩
    refine ⟨by show 1 ≤ sizeLine; decide, fun l hl => ?_⟩
    refine ⟨l, 8, [.non], rfl, rfl, upd_same, by decide, by decide, by show 8 ≤ sizeLine; decide, fun q hq => ?_⟩
    rw [row_nil]
    have hqH : H' q = Option.none := (same_new hl).free hq
    have s2 : Same H' (upd (upd H' l (.lst [V.non])) q (.lst (row []))) := (same_new hl).trans (same_new hq)
    have nDq : D ≠ q := ne_of_none g.ls hqH
    refine ⟨_, s2 _ _ g.ls, ?_, ?_, ?_, as ++ [q], ?_, ?_⟩
    · rw [List.length_map, g.len, List.length_replicate]; exact small1000 (by omega)
    · omega
    · intro x o hx
      rw [upd_ne (ne_of_none hx hD)]
      exact s2 _ _ (sm _ _ hx)
    · refine rep8 g ?_ ?_ hqH ?_
      · rw [upd_same, List.map_append]; rfl
      · rw [upd_ne nDq.symm, upd_same]
      · intro a h o ho
        rw [upd_ne (fun e : a = D => g.nc (by rw [← e]; exact h))]
        exact s2 _ _ ho
    · intro a h
      rcases List.mem_append.mp h with h | h
      · exact ha a h
      · rw [List.mem_singleton.mp h]; exact sm.free hqH
  · rintro H' ⟨_, sm, as, g, ha⟩
    exact hd H' as sm g ha
section
variable {P : Program} {wd : World} {K : PySem.W.Frag} {mg : Str → Option Value} {base : Heap} {f C CN CP CS fW fB : Addr} {fd fdB fdW : FuncData}
theorem pgs_nil {H : Hp} {n : Nat} : Pgs H (List.replicate n []) := fun vs h => by
  rw [List.mem_replicate] at h
  rw [h.2]
  exact ⟨by simp, fun v h => by cases h⟩
theorem ints_rep {m : Nat} : (List.replicate m [V.int 0]).flatten = (List.replicate m (0 : Int)).map V.int := by
  induction m with
  | zero => rfl
  | succ m ih => rw [List.replicate_succ, List.flatten_cons, ih, List.replicate_succ]; rfl
theorem ff_new {n : Int} {w c : Addr} {pw : Bool} {rm it : V} : putF "_interrupted" it (putF "_remaining" rm (putF "_powered" (V.bl pw) (putF "_contents" (V.ref c) (putF "_wears" (V.ref w) (putF "blocks" (V.int n) []))))) = ff n w c pw rm it := by
  have a1 : putF "blocks" (V.int n) [] = [(("blocks" : Str), V.int n)] := rfl
  have a2 : putF "_wears" (V.ref w) [(("blocks" : Str), V.int n)] = [(("blocks" : Str), V.int n), (("_wears" : Str), V.ref w)] := (put_past (by decide +kernel)).trans rfl
  have a3 : putF "_contents" (V.ref c) [(("blocks" : Str), V.int n), (("_wears" : Str), V.ref w)] = [(("blocks" : Str), V.int n), (("_wears" : Str), V.ref w), (("_contents" : Str), V.ref c)] :=
    (put_past (by decide +kernel)).trans (congrArg _ ((put_past (by decide +kernel)).trans rfl))
  have a4 : putF "_powered" (V.bl pw) [(("blocks" : Str), V.int n), (("_wears" : Str), V.ref w), (("_contents" : Str), V.ref c)] = [(("blocks" : Str), V.int n), (("_wears" : Str), V.ref w), (("_contents" : Str), V.ref c), (("_powered" : Str), V.bl pw)] :=
    (put_past (by decide +kernel)).trans (congrArg _ ((put_past (by decide +kernel)).trans (congrArg _ ((put_past (by decide +kernel)).trans rfl))))
  have a5 : putF "_remaining" rm [(("blocks" : Str), V.int n), (("_wears" : Str), V.ref w), (("_contents" : Str), V.ref c), (("_powered" : Str), V.bl pw)] = [(("blocks" : Str), V.int n), (("_wears" : Str), V.ref w), (("_contents" : Str), V.ref c), (("_powered" : Str), V.bl pw), (("_remaining" : Str), rm)] :=
    (put_past (by decide +kernel)).trans (congrArg _ ((put_past (by decide +kernel)).trans (congrArg _ ((put_past (by decide +kernel)).trans (congrArg _ ((put_past (by decide +kernel)).trans rfl))))))
  have a6 : putF "_interrupted" it [(("blocks" : Str), V.int n), (("_wears" : Str), V.ref w), (("_contents" : Str), V.ref c), (("_powered" : Str), V.bl pw), (("_remaining" : Str), rm)] = ff n w c pw rm it :=
    (put_past (by decide +kernel)).trans (congrArg _ ((put_past (by decide +kernel)).trans (congrArg _ ((put_past (by decide +kernel)).trans (congrArg _ ((put_past (by decide +kernel)).trans (congrArg _ ((put_past (by decide +kernel)).trans rfl))))))))
  rw [a1, a2, a3, a4, a5, a6]
theorem scInit : FnScope ["self", "blocks", "_"] ["self", "blocks"] (defScope (cF 0)) := ⟨rfl, rfl, rfl, by decide +kernel, rfl, by decide +kernel, by decide +kernel⟩
theorem ok_init (F : Fun K "__init__" "Flash.__init__" (cF 0) f fd) (T : FT K mg C CN CP CS fW fB) (G : GBet P wd K mg base fB fdB) : FnOk P wd K mg base (L2.CX P wd) 3 f fd ["self", "blocks"] (spInit C CN) := by
  obtain ⟨GB, bB, kB⟩ := G
  obtain ⟨tk1, hpag⟩ := T.pag
  obtain ⟨tk2, hmn⟩ := T.mnb
  obtain ⟨tk3, hmx⟩ := T.mxb
  refine F.okX scInit (fun vs H Q E h => ?_) (fun cdv A outer s H vs Q E hr h => ?_)
  · obtain ⟨p, dx, n, rfl, _⟩ := h
    rfl
  · obtain ⟨p, dx, n, rfl, hob, k1, k2⟩ := h
    refine ⟨_, pss_cons (ps_if (pt_not (pt_val (pe_call GB hr (by rfl) T.gB kB bB .nil pass0 (pa_cons (pv 1) (pa_cons (pe_glob (v := .int 8) (by rfl) hmn ⟨_, rfl⟩) (pa_cons (pe_glob (v := .int 24) (by rfl) hmx ⟨_, rfl⟩) pa_nil)))))) (pss_one (ps_notValid T rfl (takes_of rfl rfl rfl rfl) (by rfl))) pss_nil)
      (pss_cons (ps_fld (pv 0) (pv 1) rfl)
      (pss_cons (ps_fld (pv 0) (pe_op op_rep (pe_lst (pa_cons pe_int pa_nil)) (pv 1)) rfl)
      (pss_cons (ps_fld (pv 0) (pe_lc (own := [("_", 2)]) (g := gName 2) (tt := tYes) (te := tRow8) (by rfl) scInit.nd (pi_range1 (by rfl) T.bt.range (pa_cons (pv 1) pa_nil)) (blkOk_by (own := [("_", 2)]) (N := ["self", "blocks", "_"]) (sc := defScope (cF 0)) (by decide +kernel))
          (fun _ _ _ _ _ => pg_name (i := 2) scInit.nd rfl (Or.inl rfl)) (fun _ _ _ _ _ => pts_nil) (fun _ _ _ _ _ => by exact (pe_op op_rep (pe_lst (pa_cons pe_non pa_nil)) (pe_glob (v := .int 8) (by rfl) hpag ⟨_, rfl⟩)))) rfl)
      (pss_cons (ps_fld (pv 0) pe_bl rfl) (pss_cons (ps_fld (pv 0) pe_non rfl) (pss_one (ps_fld (pv 0) pe_non rfl))))))), ?_⟩
    refine ⟨_, rfl, _, _, _, rfl, .inl ⟨n, rfl, _, rfl, ?_⟩⟩
    by_cases c : 8 ≤ n ∧ n ≤ 24
    · rw [decide_eq_true c.1, decide_eq_true c.2]
      refine iteF ?_
      obtain ⟨m, rfl⟩ : ∃ m : Nat, n = (m : Int) := ⟨n.toNat, by omega⟩
      refine ⟨_, rfl, _, rfl, p, C, dx, [], rfl, hob, T.cl, T.n1, by show 0 < 1000; decide, ?_⟩
      generalize hH1 : upd H p (.ins C dx (putF "blocks" (.int (m : Int)) [])) = H1
      have hob1 : H1 p = some (.ins C dx (putF "blocks" (.int (m : Int)) [])) := by rw [← hH1, upd_same]
      refine ⟨by show 1 ≤ sizeLine; decide, fun l hl => ?_⟩
      refine ⟨_, rfl, l, (m : Int), [.int 0], rfl, rfl, upd_same, by omega, by omega, ?_, fun w hw => ?_⟩
      · exact Nat.le_of_lt (small1000 (by simp only [List.length_cons, List.length_nil, Int.toNat_natCast]; omega))
      have npl : p ≠ l := ne_of_none hob1 hl
      have hwH : H1 w = Option.none := (same_new hl).free hw
      have npw : p ≠ w := ne_of_none hob1 hwH
      refine ⟨_, rfl, p, C, dx, _, rfl, (by rw [upd_ne npw, upd_ne npl]; exact hob1), T.cl, T.n2, by show 1 < 1000; decide, ?_⟩
      generalize hH2 : upd (upd (upd H1 l (.lst [V.int 0])) w (.lst (List.replicate (m : Int).toNat [V.int 0]).flatten)) p (.ins C dx (putF "_wears" (.ref w) (putF "blocks" (.int (m : Int)) []))) = H2
      have hob2 : H2 p = some (.ins C dx (putF "_wears" (.ref w) (putF "blocks" (.int (m : Int)) []))) := by rw [← hH2, upd_same]
      have hw2 : H2 w = some (.lst ((List.replicate m (0 : Int)).map V.int)) := by
        rw [← hH2, upd_ne npw.symm, upd_same, Int.toNat_natCast, ints_rep]
      refine ⟨_, rfl, _, rfl, by omega, by omega, fun D hD => ?_⟩
      rw [Int.toNat_natCast]
      refine rows_lc (j := 2) hD (fun _ => rfl) (by omega) fun H3 as sm g hnew => ?_
      have hob3 := sm _ _ hob2
      refine ⟨_, rfl, p, C, dx, _, rfl, hob3, T.cl, T.n3, by show 2 < 1000; decide, _, rfl, p, C, dx, _, rfl, upd_same, T.cl, T.n4, by show 3 < 1000; decide, _, rfl, p, C, dx, _, rfl, upd_same, T.cl, T.n5, by show 4 < 1000; decide, _, rfl, p, C, dx, _, rfl, upd_same, T.cl, T.n6, by show 5 < 1000; decide, ?_⟩
      rw [upd_upd, upd_upd, upd_upd]
      rw [ff_new]
      have s12 : Same H1 (upd (upd H1 l (.lst [V.int 0])) w (.lst (List.replicate (m : Int).toNat [V.int 0]).flatten)) := (same_new hl).trans (same_new hw)
      have hfree : ∀ x, H2 x = Option.none → H x = Option.none := fun x hx => by
        cases e : H x with
        | none => rfl
        | some o =>
          exfalso
          by_cases ed : x = p
          · rw [ed, hob2] at hx; cases hx
          · have h1 : H1 x = some o := by rw [← hH1, upd_ne ed]; exact e
            rw [← hH2, upd_ne ed, s12 _ _ h1] at hx; cases hx
      have hDH : H D = Option.none := hfree D hD
      have hwHH : H w = Option.none := by rw [← hH1, upd_ne npw.symm] at hwH; exact hwH
      have keep : ∀ x o, H x = some o → x ≠ p → (upd H3 p (.ins C dx (ff (m : Int) w D true .non .non))) x = some o := fun x o hx hp => by
        rw [upd_ne hp]
        refine sm _ _ ?_
        rw [← hH2, upd_ne hp]
        refine s12 _ _ ?_
        rw [← hH1, upd_ne hp]; exact hx
      have npD : p ≠ D := ne_of_none hob2 hD
      refine k1 m rfl (by omega) (by omega) w D as _ ⟨⟨dx, by rw [List.length_replicate]; exact upd_same⟩, ?_, ?_, by rw [List.length_replicate, List.length_replicate], pgs_nil, ?_, ?_⟩ hwHH hDH ?_ ?_ ?_
      · rw [upd_ne npw.symm]; exact sm _ _ hw2
      · refine g.keep (fun o h => ?_) (fun a ha o h => ?_)
        · rw [upd_ne npD.symm]; exact h
        · rw [upd_ne (ne_of_none hob2 (hnew a ha)).symm]; exact h
      · exact ne_of_none hw2 hD
      · intro h
        have := hnew w h
        rw [hw2] at this; cases this
      · intro a ha; exact hfree a (hnew a ha)
      · intro x o hx hp; exact keep x o hx (by simpa using hp)
      · intro t xs ht
        exact keep t _ ht (ne_of ht hob (by intro z; cases z))
    · have e : (decide (8 ≤ n) && decide (n ≤ 24)) = false := by
        rw [Bool.and_eq_false_iff, decide_eq_false_iff_not, decide_eq_false_iff_not]; omega
      rw [e]
      exact iteT (k2 c)
end
end Sg

set_option Elab.async false
set_option linter.all false
set_option maxRecDepth 100000
set_option maxHeartbeats 4000000
namespace Sg
open PySem PySem.Spec PyProof.Rows L2
def spFail (K : PySem.W.Frag) (C CN : Addr) : Sp := fun vs H Q E => ∃ p w c as ws ps pw rm it cv, vs = [.ref p, cv] ∧ FlashAt C H p w c as ws ps pw rm it ∧
  (((cv = .non ∨ ∃ n : Int, cv = .int n ∧ 0 ≤ n ∧ n ≤ 100000) ∧ ∀ H', FlashAt C H' p w c as ws ps pw cv it → Off [p] H H' → Tups H H' → Q .non H') ∨
   (((∃ n : Int, cv = .int n ∧ ¬ (0 ≤ n ∧ n ≤ 100000)) ∨ (cv ≠ .non ∧ ∃ t b1 b2, TyX K H cv t ∧ PySem.W.kitOne K t (.type "int") = some b1 ∧ PySem.W.kitOne K t (.type "bool") = some b2 ∧ (b1 && !b2) = false)) ∧ E (.ref CN) Option.none H))
/-- what stands behind a cut: the content of an operation that was done or torn -/
def cutV' (ch : Int) (cv : V) : V := if ch = 1 then cv else .str "torn"
def spCut (C CN : Addr) : Sp := fun vs H Q E => ∃ p w c as ws ps pw rm it ch, vs = [.ref p, .int ch] ∧ FlashAt C H p w c as ws ps pw rm it ∧
  ((¬ (0 ≤ ch ∧ ch ≤ 2) ∧ E (.ref CN) Option.none H) ∨
   (0 ≤ ch ∧ ch ≤ 2 ∧ (it = .non ∨ ∃ t o, it = .ref t ∧ H t = some o) ∧ (it = .non ∨ ch = 0) ∧ ∀ H', FlashAt C H' p w c as ws ps true .non .non → Off [p] H H' → Tups H H' → Q .non H') ∨
   (0 < ch ∧ ch ≤ 2 ∧ ∃ (t : Addr) (b : Nat) (pg cv : V), it = .ref t ∧ H t = some (.tup [.int (b : Int), pg, cv]) ∧ b < ps.length ∧ Carried C H p w c as ws ps true .non .non b pg (cutV' ch cv) (Q .non)))
theorem cut_end {C : Addr} {H : Hp} {p w c dx : Addr} {as : List Addr} {ws : List Int} {ps : List (List V)} {pw : Bool} {rm it : V} (F : FlashAt C H p w c as ws ps pw rm it) (hob : H p = some (.ins C dx (ff (ps.length : Int) w c pw rm it))) :
    FlashAt C (upd (upd (upd H p (.ins C dx (ff (ps.length : Int) w c true rm it))) p (.ins C dx (ff (ps.length : Int) w c true .non it))) p (.ins C dx (ff (ps.length : Int) w c true .non .non))) p w c as ws ps true .non .non ∧
    Off [p] H (upd (upd (upd H p (.ins C dx (ff (ps.length : Int) w c true rm it))) p (.ins C dx (ff (ps.length : Int) w c true .non it))) p (.ins C dx (ff (ps.length : Int) w c true .non .non))) ∧
    Tups H (upd (upd (upd H p (.ins C dx (ff (ps.length : Int) w c true rm it))) p (.ins C dx (ff (ps.length : Int) w c true .non it))) p (.ins C dx (ff (ps.length : Int) w c true .non .non))) := by
  rw [upd_upd, upd_upd]
  exact F.fields (pw' := true) (rm' := .non) (it' := .non) hob rfl
section
variable {P : Program} {wd : World} {K : PySem.W.Frag} {mg : Str → Option Value} {base : Heap} {f C CN CP CS fW fB fk fk2 fk3 fk4 : Addr} {fd fdB fdW fdk fdk2 fdk3 fdk4 : FuncData}
theorem scFail : FnScope ["self", "count"] ["self", "count"] (defScope (cF 5)) := ⟨rfl, rfl, rfl, by decide +kernel, rfl, by decide +kernel, by decide +kernel⟩
theorem ok_fail (F : Fun K "fail_after" "Flash.fail_after" (cF 5) f fd) (T : FT K mg C CN CP CS fW fB) (G : GBet P wd K mg base fB fdB) (gM : ∃ t, mg "MOST_OPERATIONS" = some (.int 100000 t)) : FnOk P wd K mg base (L2.CX P wd) 3 f fd ["self", "count"] (spFail K C CN) := by
  obtain ⟨GB, bB, kB⟩ := G
  obtain ⟨tk, hmost⟩ := gM
  refine F.okX scFail (fun vs H Q E h => ?_) (fun cdv A outer s H vs Q E hr h => ?_)
  · obtain ⟨p, w, c, as, ws, ps, pw, rm, it, cv, rfl, _⟩ := h
    rfl
  · obtain ⟨p, w, c, as, ws, ps, pw, rm, it, cv, rfl, FA, h⟩ := h
    obtain ⟨dx, hob⟩ := id FA.ob
    refine ⟨_, pss_cons (ps_if (PW.pt (pw_and (pt_cmpR op_notN (pv 1) pe_non (nomark _)) (pw_and1 (pt_not (pt_val (pe_call GB hr (by rfl) T.gB kB bB .nil pass0 (pa_cons (pv 1) (pa_cons pe_int (pa_cons (pe_glob (v := .int 100000) (by rfl) hmost ⟨_, rfl⟩) pa_nil)))))))))
        (pss_one (ps_notValid T rfl (takes_of rfl rfl rfl rfl) (by rfl))) pss_nil)
      (pss_one (ps_fld (pv 0) (pv 1) rfl)), ?_⟩
    have fin : (∀ H', FlashAt C H' p w c as ws ps pw cv it → Off [p] H H' → Tups H H' → Q .non H') → Q .non (upd H p (.ins C dx (ff (ps.length : Int) w c pw cv it))) := fun k => by
      obtain ⟨A1, A2, A3⟩ := FA.fields (o := .ins C dx (ff (ps.length : Int) w c pw cv it)) (pw' := pw) (rm' := cv) (it' := it) hob rfl
      exact k _ A1 A2 A3
    refine ⟨_, rfl, rfl, _, rfl, ?_⟩
    rcases h with ⟨rfl | ⟨n, rfl, h0, h1⟩, k⟩ | ⟨⟨n, rfl, hn⟩ | ⟨hnn, t, b1, b2, ty, h1, h2, hb⟩, k⟩
    · rw [decide_eq_true rfl]
      refine iteF (iteF ⟨_, rfl, _, rfl, p, C, dx, _, rfl, hob, T.cl, T.n5, ff_len, ?_⟩)
      rw [ff_putR]
      exact fin k
    · rw [decide_eq_false (by intro z; cases z)]
      refine iteT ⟨_, rfl, .int n, 0, 100000, rfl, .inl ⟨n, rfl, _, rfl, ?_⟩⟩
      rw [decide_eq_true h0, decide_eq_true h1]
      refine iteF ⟨_, rfl, _, rfl, p, C, dx, _, rfl, hob, T.cl, T.n5, ff_len, ?_⟩
      rw [ff_putR]
      exact fin k
    · rw [decide_eq_false (by intro z; cases z)]
      refine iteT ⟨_, rfl, .int n, 0, 100000, rfl, .inl ⟨n, rfl, _, rfl, ?_⟩⟩
      have e : (decide ((0 : Int) ≤ n) && decide (n ≤ 100000)) = false := by
        rw [Bool.and_eq_false_iff, decide_eq_false_iff_not, decide_eq_false_iff_not]; omega
      rw [e]
      exact iteT k
    · rw [decide_eq_false hnn]
      exact iteT ⟨_, rfl, cv, 0, 100000, rfl, .inr ⟨t, b1, b2, ty, h1, h2, hb, _, rfl, iteT k⟩⟩
theorem scCut : FnScope ["self", "choice", "block", "page", "content"] ["self", "choice"] (defScope (cF 6)) := ⟨rfl, rfl, rfl, by decide +kernel, rfl, by decide +kernel, by decide +kernel⟩
theorem ok_cut (F : Fun K "cut" "Flash.cut" (cF 6) f fd) (T : FT K mg C CN CP CS fW fB) (G : GBet P wd K mg base fB fdB) (gT : ∃ t, mg "TORN" = some (.str "torn" t))
    (Gk2 : FnOk P wd K mg base CX0 1 fk2 fdk2 ["self", "block", "page", "content"] (spCarry C)) (bk2 : Binds K fdk2 ["self", "block", "page", "content"] []) (mk2 : Meth K C "_carry_out" fk2) : FnOk P wd K mg base (L2.CX P wd) 3 f fd ["self", "choice"] (spCut C CN) := by
  obtain ⟨GB, bB, kB⟩ := G
  obtain ⟨tk, htorn⟩ := gT
  refine F.okX scCut (fun vs H Q E h => ?_) (fun cdv A outer s H vs Q E hr h => ?_)
  · obtain ⟨p, w, c, as, ws, ps, pw, rm, it, ch, rfl, _⟩ := h
    rfl
  · obtain ⟨p, w, c, as, ws, ps, pw, rm, it, ch, rfl, FA, h⟩ := h
    obtain ⟨dx, hob⟩ := id FA.ob
    have hr1 : Room 1 _ := hr.mono (by decide)
    refine ⟨_, pss_cons (ps_if (pt_not (pt_val (pe_call GB hr (by rfl) T.gB kB bB .nil pass0 (pa_cons (pv 1) (pa_cons pe_int (pa_cons pe_int pa_nil))))))
        (pss_one (ps_notValid T rfl (takes_of rfl rfl rfl rfl) (by rfl))) pss_nil)
      (pss_cons (ps_if (PW.pt (pw_and (pt_cmpR op_notN (pe_fld (pv 0) rfl) pe_non (nomark _)) (pw_and1 (pt_cmpR op_gt (pv 1) pe_int (nomark _)))))
        (pss_cons (ps_asg (pe_fld (pv 0) rfl) (pg_tup (by rfl) (pgs_cons (pg_name (i := 2) scCut.nd rfl (Or.inl rfl)) (pgs_cons (pg_name (i := 3) scCut.nd rfl (Or.inl rfl)) (pgs_cons (pg_name (i := 4) scCut.nd rfl (Or.inl rfl)) L2.pgs_nil)))))
        (pss_one (ps_expr (pe_meth (pv 0) T.cl mk2 Gk2 hr1 bk2 .nil pass0 (pa_cons (pv 2) (pa_cons (pv 3) (pa_cons (pe_ifExp (pt_cmpR op_eq (pv 1) pe_int (nomark _)) (pv 4) (pe_glob (v := .str "torn") (by rfl) htorn ⟨_, rfl⟩)) pa_nil))))))) pss_nil)
      (pss_cons (ps_fld (pv 0) pe_bl rfl) (pss_cons (ps_fld (pv 0) pe_non rfl) (pss_one (ps_fld (pv 0) pe_non rfl))))), ?_⟩
    refine ⟨_, rfl, .int ch, 0, 2, rfl, .inl ⟨ch, rfl, _, rfl, ?_⟩⟩
    by_cases hc : 0 ≤ ch ∧ ch ≤ 2
    · rw [decide_eq_true hc.1, decide_eq_true hc.2]
      refine iteF ?_
      refine ⟨_, rfl, p, C, dx, _, _, rfl, hob, T.cl, T.n6, ff_interrupted, ?_⟩
      rcases h with ⟨hn, _⟩ | ⟨_, _, hit, hz, k⟩ | ⟨h0, _, t, b, pg, cv, rfl, ht, hb, k⟩
      · exact absurd hc hn
      · have fin : Q .non (upd (upd (upd H p (.ins C dx (ff (ps.length : Int) w c true rm it))) p (.ins C dx (ff (ps.length : Int) w c true .non it))) p (.ins C dx (ff (ps.length : Int) w c true .non .non))) := by
          obtain ⟨A1, A2, A3⟩ := cut_end FA hob
          exact k _ A1 A2 A3
        refine ⟨?_, _, rfl, ?_⟩
        · rcases hit with rfl | ⟨t, o, rfl, _⟩ <;> rfl
        refine ite2 (fun c1 => ?_) (fun c1 => ?_)
        · have hch : ch = 0 := hz.resolve_left fun e => by rw [e] at c1; exact Bool.noConfusion c1
          subst hch
          refine ⟨_, rfl, _, _, rfl, rfl, _, rfl, iteF ?_⟩
          refine ⟨_, rfl, p, C, dx, _, rfl, hob, T.cl, T.n4, ff_len, ?_⟩
          rw [ff_putP]
          refine ⟨_, rfl, p, C, dx, _, rfl, upd_same, T.cl, T.n5, ff_len, ?_⟩
          rw [ff_putR]
          refine ⟨_, rfl, p, C, dx, _, rfl, upd_same, T.cl, T.n6, ff_len, ?_⟩
          rw [ff_putI]
          exact fin
        · refine iteF ?_
          refine ⟨_, rfl, p, C, dx, _, rfl, hob, T.cl, T.n4, ff_len, ?_⟩
          rw [ff_putP]
          refine ⟨_, rfl, p, C, dx, _, rfl, upd_same, T.cl, T.n5, ff_len, ?_⟩
          rw [ff_putR]
          refine ⟨_, rfl, p, C, dx, _, rfl, upd_same, T.cl, T.n6, ff_len, ?_⟩
          rw [ff_putI]
          exact fin
      · refine ⟨rfl, _, rfl, ?_⟩
        rw [decide_eq_false (by intro z; cases z)]
        refine iteT ⟨_, rfl, _, _, rfl, rfl, _, rfl, ?_⟩
        rw [decide_eq_true h0]
        refine iteT ?_
        refine ⟨_, rfl, p, C, dx, _, _, rfl, hob, T.cl, T.n6, ff_interrupted, t, _, rfl, SqT.of ht, rfl, ?_⟩
        refine ⟨_, _, rfl, _, _, rfl, _, _, rfl, rfl, ?_⟩
        have done : ∀ H' (as' : List Addr) (ws' : List Int) (ps' : List (List V)), ps'.length = ps.length → FlashAt C H' p w c as' ws' ps' pw rm (.ref t) → Off (p :: w :: c :: as) H H' → Tups H H' →
            (∀ H2, FlashAt C H2 p w c as' ws' ps' true .non .non → Off (p :: w :: c :: as) H H2 → Tups H H2 → Q .non H2) →
            (sFld K (tVar 0) (tC (.bl true)) "_powered" { nx := sFld K (tVar 0) (tC .non) "_remaining" { nx := sFld K (tVar 0) (tC .non) "_interrupted" { nx := fun _ H' => Q .non H', rt := Q, bk := fun _ _ => False, ct := fun _ _ => False }, rt := Q, bk := fun _ _ => False, ct := fun _ _ => False }, rt := Q, bk := fun _ _ => False, ct := fun _ _ => False } [some (.ref p), some (.int ch), some (.int (b : Int)), some pg, some cv] H') := by
          intro H' as' ws' ps' hl FA' o' t' kk
          obtain ⟨dx', hob'⟩ := id FA'.ob
          refine ⟨_, rfl, p, C, dx', _, rfl, hob', T.cl, T.n4, ff_len, ?_⟩
          rw [ff_putP]
          refine ⟨_, rfl, p, C, dx', _, rfl, upd_same, T.cl, T.n5, ff_len, ?_⟩
          rw [ff_putR]
          refine ⟨_, rfl, p, C, dx', _, rfl, upd_same, T.cl, T.n6, ff_len, ?_⟩
          rw [ff_putI]
          obtain ⟨A1, A2, A3⟩ := cut_end FA' hob'
          refine kk _ A1 (fun x o hx hn => A2 x o (o' x o hx hn) (fun z => hn ?_)) (t'.trans A3)
          rw [List.mem_singleton.mp z]; exact List.mem_cons_self
        have car : Carried C H p w c as ws ps pw rm (.ref t) b pg (cutV' ch cv) (fun H' => sFld K (tVar 0) (tC (.bl true)) "_powered" { nx := sFld K (tVar 0) (tC .non) "_remaining" { nx := sFld K (tVar 0) (tC .non) "_interrupted" { nx := fun _ H' => Q .non H', rt := Q, bk := fun _ _ => False, ct := fun _ _ => False }, rt := Q, bk := fun _ _ => False, ct := fun _ _ => False }, rt := Q, bk := fun _ _ => False, ct := fun _ _ => False } [some (.ref p), some (.int ch), some (.int (b : Int)), some pg, some cv] H') := by
          rcases k with ⟨e1, e2, k⟩ | ⟨vs, e1, e2, e3, e4, k⟩
          · exact .inl ⟨e1, e2, fun q H' wv hq hw F' o' t' => done H' _ _ _ (by rw [List.length_set]) F' o' t' fun H2 F2 o2 t2 => k q H2 wv hq hw F2 o2 t2⟩
          · exact .inr ⟨vs, e1, e2, e3, e4, fun H' F' o' t' => done H' _ _ _ (by rw [List.length_set]) F' o' t' fun H2 F2 o2 t2 => k H2 F2 o2 t2⟩
        refine ⟨_, rfl, p, dx, _, rfl, hob, ff_no (by decide +kernel), _, rfl, _, rfl, _, rfl, rfl, _, rfl, ?_⟩
        unfold cutV' at car
        by_cases c1 : ch = 1
        · rw [if_pos c1] at car
          subst c1
          refine iteT ⟨_, rfl, p, w, c, as, ws, ps, pw, rm, .ref t, b, pg, cv, rfl, FA, hb, ?_⟩
          exact car
        · rw [if_neg c1] at car
          refine ite2 (fun z => absurd (of_decide_eq_true z) (by intro e; cases e; exact c1 rfl)) (fun _ => ?_)
          refine ⟨p, w, c, as, ws, ps, pw, rm, .ref t, b, pg, .str "torn", rfl, FA, hb, ?_⟩
          exact car
    · rcases h with ⟨hn, k⟩ | ⟨h1, h2, _⟩ | ⟨h1, h2, _⟩
      · have e : (decide ((0 : Int) ≤ ch) && decide (ch ≤ 2)) = false := by
          rw [Bool.and_eq_false_iff, decide_eq_false_iff_not, decide_eq_false_iff_not]; omega
        rw [e]
        exact iteT k
      · exact absurd ⟨h1, h2⟩ hc
      · exact absurd ⟨by omega, h2⟩ hc
end
end Sg

set_option Elab.async false
set_option linter.all false
set_option maxRecDepth 100000
set_option maxHeartbeats 4000000
namespace Sg
open PySem PySem.Spec PyProof.Rows L2
/-! ### lists made by a comprehension over a list -/
section
variable {K : PySem.W.Frag} {σ : L2.St} {H1 : Hp} {D a : Addr} {vs : List Nat} {j : Nat} {xs : List V} {te : TE} {Qd : Hp → Prop}
theorem lc_mapS (ys : List V) (hlen : ys.length = xs.length) (hD : H1 D = Option.none) (hx : SqL K H1 a xs) (hw : ∀ x, wipe ((wipe σ vs).set j (some x)) vs = wipe σ vs) (hz : xs.length ≤ 1000)
    (he : ∀ (i : Nat) (x y : V) (H' : Hp) (Q' : VK), xs[i]? = some x → ys[i]? = some y → Same H1 H' → (∀ H'', Same H' H'' → Q' y H'') → te ((wipe σ vs).set j (some x)) H' Q')
    (hd : ∀ H', Same H1 H' → H' D = some (.lst ys) → Qd H') :
    ∃ W : Nat → Nat → Hp → Prop, (∃ m, W 0 m (upd H1 D (.lst []))) ∧ ∀ i m H, W i m H →
      ((Itl K a).stop i H ∧ Qd H) ∨ ((Itl K a).go i H ∧ ∃ Nx : Hp → Prop, (∀ H', Nx H' → ∃ m', m' < m ∧ W (i + 1) m' H') ∧ ∀ x H', (Itl K a).yld i H x H' → gName j x (wipe σ vs) H' fun σ2 H2 => wipe σ2 vs = wipe σ vs ∧ tYes σ2 H2 fun b H3 =>
        if b = true then te σ2 H3 fun y H4 => ∃ acc, H4 D = some (.lst acc) ∧ acc.length < sizeLine ∧ Nx (upd H4 D (.lst (acc ++ [y]))) else Nx H3) := by
  refine lc_list (K := K) (a := a) (xs := xs) (fun i H' => i ≤ xs.length ∧ Same H1 H' ∧ H' D = some (.lst (ys.take i))) ⟨Nat.zero_le _, same_new hD, by rw [List.take_zero]; exact upd_same⟩ (fun i H' _ ⟨_, sm, _⟩ => sm.seq hx) ?_ ?_
  · rintro i x H' hi ⟨_, sm, hDl⟩
    have hil := (List.getElem?_eq_some_iff.mp hi).1
    have hy : ys[i]? = some (ys[i]'(by omega)) := List.getElem?_eq_getElem _
    refine ⟨hw _, yesIte (he i x _ H' _ hi hy sm fun H'' s2 => ⟨_, s2 _ _ hDl, ?_, by omega, ?_, ?_⟩)⟩
    · rw [List.length_take]; exact small1000 (by omega)
    · intro y o hy'
      rw [upd_ne (ne_of_none hy' hD)]
      exact s2 _ _ (sm _ _ hy')
    · rw [upd_same, List.take_add_one, hy]; rfl
  · rintro H' ⟨_, sm, hDl⟩
    exact hd H' sm (by rw [hDl, ← hlen, List.take_length])
theorem lc_newS (P : Nat → Addr → Hp → Prop) (hP : ∀ i q H H', (∀ x o, x ≠ D → H x = some o → H' x = some o) → P i q H → P i q H') (hD : H1 D = Option.none) (hx : SqL K H1 a xs) (hw : ∀ x, wipe ((wipe σ vs).set j (some x)) vs = wipe σ vs) (hz : xs.length ≤ 1000)
    (he : ∀ (i : Nat) (x : V) (H' : Hp) (Q' : VK), xs[i]? = some x → Same H1 H' → (∃ o, H' D = some o) → (∀ q H'', H' q = Option.none → Same H' H'' → P i q H'' → (∃ o, H'' q = some o) → Q' (.ref q) H'') → te ((wipe σ vs).set j (some x)) H' Q')
    (hd : ∀ (H' : Hp) (qs : List Addr), Same H1 H' → H' D = some (.lst (qs.map V.ref)) → qs.length = xs.length → qs.Nodup → D ∉ qs → (∀ i q, qs[i]? = some q → P i q H' ∧ H1 q = Option.none) → Qd H') :
    ∃ W : Nat → Nat → Hp → Prop, (∃ m, W 0 m (upd H1 D (.lst []))) ∧ ∀ i m H, W i m H →
      ((Itl K a).stop i H ∧ Qd H) ∨ ((Itl K a).go i H ∧ ∃ Nx : Hp → Prop, (∀ H', Nx H' → ∃ m', m' < m ∧ W (i + 1) m' H') ∧ ∀ x H', (Itl K a).yld i H x H' → gName j x (wipe σ vs) H' fun σ2 H2 => wipe σ2 vs = wipe σ vs ∧ tYes σ2 H2 fun b H3 =>
        if b = true then te σ2 H3 fun y H4 => ∃ acc, H4 D = some (.lst acc) ∧ acc.length < sizeLine ∧ Nx (upd H4 D (.lst (acc ++ [y]))) else Nx H3) := by
  refine lc_list (K := K) (a := a) (xs := xs) (fun i H' => i ≤ xs.length ∧ Same H1 H' ∧ ∃ qs : List Addr, H' D = some (.lst (qs.map V.ref)) ∧ qs.length = i ∧ qs.Nodup ∧ D ∉ qs ∧ ∀ i q, qs[i]? = some q → P i q H' ∧ H1 q = Option.none ∧ ∃ o, H' q = some o)
    ⟨Nat.zero_le _, same_new hD, [], upd_same, rfl, List.nodup_nil, by simp, fun i q h => by simp at h⟩ (fun i H' _ ⟨_, sm, _⟩ => sm.seq hx) ?_ ?_
  · rintro i x H' hi ⟨_, sm, qs, hDl, hl, nd, nD, hqs⟩
    have hil := (List.getElem?_eq_some_iff.mp hi).1
    refine ⟨hw _, yesIte (he i x H' _ hi sm ⟨_, hDl⟩ fun q H'' hq s2 hPq hqo => ⟨_, s2 _ _ hDl, ?_, by omega, ?_, qs ++ [q], ?_, ?_, ?_, ?_, ?_⟩)⟩
    · rw [List.length_map, hl]; exact small1000 (by omega)
    · intro y o hy'
      rw [upd_ne (ne_of_none hy' hD)]
      exact s2 _ _ (sm _ _ hy')
    · rw [upd_same, List.map_append]; rfl
    · rw [List.length_append, hl]; rfl
    · rw [List.nodup_append]
      refine ⟨nd, by simp, fun u hu v hv => ?_⟩
      rw [List.mem_singleton.mp hv]
      obtain ⟨n, hn⟩ := List.getElem?_of_mem hu
      obtain ⟨_, _, o, ho⟩ := hqs n u hn
      exact ne_of_none ho hq
    · intro hm
      rcases List.mem_append.mp hm with h | h
      · exact nD h
      · exact ne_of_none hDl hq (List.mem_singleton.mp h)
    · intro m u hu
      by_cases hm : m < qs.length
      · rw [List.getElem?_append_left hm] at hu
        obtain ⟨p1, p2, o, ho⟩ := hqs m u hu
        refine ⟨hP m u H' _ (fun y ob hy ho => ?_) p1, p2, ?_⟩
        · rw [upd_ne hy]; exact s2 _ _ ho
        · by_cases e : u = D
          · rw [e]; exact ⟨_, upd_same⟩
          · exact ⟨o, by rw [upd_ne e]; exact s2 _ _ ho⟩
      · have hm' : m = qs.length := by
          have := (List.getElem?_eq_some_iff.mp hu).1
          rw [List.length_append] at this
          simp only [List.length_cons, List.length_nil] at this
          omega
        subst hm'
        rw [List.getElem?_append_right (Nat.le_refl _), Nat.sub_self] at hu
        have e : q = u := by simpa using hu
        subst e
        rw [hl]
        obtain ⟨o, ho⟩ := hqo
        refine ⟨hP i q H'' _ (fun y ob hy ho => by rw [upd_ne hy]; exact ho) hPq, sm.free hq, o, ?_⟩
        rw [upd_ne (ne_of_none hDl hq).symm]; exact ho
  · rintro H' ⟨_, sm, qs, hDl, hl, nd, nD, hqs⟩
    exact hd H' qs sm hDl hl nd nD fun i q h => ⟨(hqs i q h).1, (hqs i q h).2.1⟩
end
/-! ### pages of any kind -/
def pgB : V → Bool
  | .str x => decide (x = "torn")
  | _ => true
def isNon (v : V) : Bool := decide (v = .non)
def AnyPg (H : Hp) (v : V) : Prop := v = .non ∨ (∃ x, v = .str x ∧ PyData.strOk x = true) ∨ (∃ t xs, v = .ref t ∧ H t = some (.tup xs) ∧ xs.all flatC = true)
theorem AnyPg.same {H H' : Hp} {v : V} (h : AnyPg H v) (s : Same H H') : AnyPg H' v := by
  rcases h with h | h | ⟨t, xs, e, ht, hx⟩
  · exact .inl h
  · exact .inr (.inl h)
  · exact .inr (.inr ⟨t, xs, e, s _ _ ht, hx⟩)
theorem PgN.any {H : Hp} {v : V} (h : PgN H v) : AnyPg H v ∧ pgB v = true ∧ isNon v = false := by
  rcases h with rfl | ⟨t, xs, rfl, ht, hx⟩
  · exact ⟨.inr (.inl ⟨_, rfl, by decide +kernel⟩), by decide +kernel, by decide +kernel⟩
  · exact ⟨.inr (.inr ⟨t, xs, rfl, ht, hx⟩), rfl, decide_eq_false (by intro z; cases z)⟩
theorem AnyPg.dp {K : PySem.W.Frag} {H : Hp} {v : V} (h : AnyPg H v) : ∃ d, Dp K H v d ∧ d.canLay0 = true ∧ d.depth ≤ 1 ∧ PyData.eqv d .none = isNon v := by
  rcases h with rfl | ⟨x, rfl, hx⟩ | ⟨t, xs, rfl, ht, hx⟩
  · exact ⟨.none, .non, by simp [PyData.canLay0], by simp [PyData.depth], by simp [PyData.eqv, isNon]⟩
  · exact ⟨.str x, .str _, by simpa [PyData.canLay0] using hx, by simp [PyData.depth], by simp [PyData.eqv, isNon]⟩
  · obtain ⟨a1, a2, a3⟩ := flats_dp (K := K) (H := H) hx
    exact ⟨.tuple (xs.map dFlat), .tup (SqT.of ht) a1, by simpa [PyData.canLay0] using a2, by simp [PyData.depth, a3], by simp [PyData.eqv, isNon]⟩
theorem anys_dp {K : PySem.W.Frag} {H : Hp} : ∀ {vs : List V}, (∀ v ∈ vs, AnyPg H v) → ∃ ds, DpAll K H vs ds ∧ PyData.canLayAll0 ds = true ∧ PyData.depthAll ds ≤ 1 ∧ ds.map (fun z => PyData.eqv z .none) = vs.map isNon
  | [], _ => ⟨[], .nil, by simp [PyData.canLayAll0], by simp [PyData.depthAll], rfl⟩
  | v :: vs, h => by
    obtain ⟨d, a1, a2, a3, a4⟩ := (h v List.mem_cons_self).dp (K := K)
    obtain ⟨ds, b1, b2, b3, b4⟩ := anys_dp (K := K) (fun v hv => h v (List.mem_cons_of_mem _ hv))
    refine ⟨d :: ds, .cons a1 b1, by simp [PyData.canLayAll0, a2, b2], ?_, ?_⟩
    · simp only [PyData.depthAll]; omega
    · rw [List.map_cons, List.map_cons, a4, b4]
theorem count_of {ds : List PyData} {vs : List V} (h : ds.map (fun z => PyData.eqv z .none) = vs.map isNon) : ds.countP (fun z => PyData.eqv z .none) = vs.countP isNon := by
  have a : (ds.map (fun z => PyData.eqv z .none)).countP id = ds.countP (fun z => PyData.eqv z .none) := by rw [List.countP_map]; rfl
  have b : (vs.map isNon).countP id = vs.countP isNon := by rw [List.countP_map]; rfl
  rw [← a, ← b, h]
theorem any_of {ds : List PyData} {vs : List V} (h : ds.map (fun z => PyData.eqv z .none) = vs.map isNon) : ds.any (fun z => PyData.eqv z .none) = vs.any isNon := by
  have a : (ds.map (fun z => PyData.eqv z .none)).any id = ds.any (fun z => PyData.eqv z .none) := by rw [List.any_map]; rfl
  have b : (vs.map isNon).any id = vs.any isNon := by rw [List.any_map]; rfl
  rw [← a, ← b, h]
def wB : V → Bool
  | .int i => decide (0 ≤ i)
  | _ => false
/-- what is answered of a tuple (wear, list of pages) -/
def blkB (wv : V) (pgs : List V) : Bool := wB wv && (decide (pgs.length = 8) && (pgs.all pgB && !((pgs.take (8 - pgs.countP isNon)).any isNon)))
/-- an entry, and what is answered of it -/
def IsB (H : Hp) (e : V) (b : Bool) : Prop := (∃ t xs, e = .ref t ∧ H t = some (.lst xs) ∧ b = false) ∨
  (∃ t wv pl pgs, e = .ref t ∧ H t = some (.tup [wv, .ref pl]) ∧ ((∃ i, wv = .int i) ∨ ∃ c, wv = .bl c) ∧ H pl = some (.lst pgs) ∧ pgs.length ≤ 100 ∧ (∀ v ∈ pgs, AnyPg H v) ∧ b = blkB wv pgs)
theorem IsB.same {H H' : Hp} {e : V} {b : Bool} (h : IsB H e b) (s : Same H H') : IsB H' e b := by
  rcases h with ⟨t, xs, h1, h2, h3⟩ | ⟨t, wv, pl, pgs, h1, h2, h3, h4, h5, h6, h7⟩
  · exact .inl ⟨t, xs, h1, s _ _ h2, h3⟩
  · exact .inr ⟨t, wv, pl, pgs, h1, s _ _ h2, h3, s _ _ h4, h5, fun v hv => (h6 v hv).same s, h7⟩
def spAtLeast (K : PySem.W.Frag) : Sp := fun vs H Q _ => ∃ (x : V) (lo : Int), vs = [x, .int lo] ∧
  ((∃ i, x = .int i ∧ Q (.bl (decide (lo ≤ i))) H) ∨ (∃ t b1 b2, TyX K H x t ∧ PySem.W.kitOne K t (.type "int") = some b1 ∧ PySem.W.kitOne K t (.type "bool") = some b2 ∧ (b1 && !b2) = false ∧ Q (.bl false) H))
def spIsPage : Sp := fun vs H Q _ => ∃ v, vs = [v] ∧ AnyPg H v ∧ Q (.bl (pgB v)) H
def spFirst2 : Sp := fun vs H Q _ => ∃ a xs, vs = [.ref a] ∧ H a = some (.lst xs) ∧ xs.length ≤ 8 ∧ (∀ v ∈ xs, AnyPg H v) ∧ Q (.int ((8 - xs.countP isNon : Nat) : Int)) H
def spIsBlock : Sp := fun vs H Q _ => ∃ e b, vs = [e] ∧ IsB H e b ∧ ∀ H', Same H H' → Q (.bl b) H'

end Sg

set_option Elab.async false
set_option linter.all false
set_option maxRecDepth 100000
namespace Sg
open PySem PySem.Spec PyProof.Rows L2
abbrev sIsRec : Stmt := top 25
abbrev sCount : Stmt := top 26
abbrev sOnce : Stmt := top 27
abbrev sIsKind : Stmt := top 28
abbrev sIsCounter : Stmt := top 29
abbrev sIsField : Stmt := top 30
abbrev sIsTold : Stmt := top 31
abbrev cL (i : Nat) : Stmt := inClass (top 33) i
abbrev sReadBlk : Stmt := top 34
abbrev sUsed : Stmt := top 38
abbrev sLRecord : Stmt := top 39
abbrev sLState : Stmt := top 40
abbrev sLRoom : Stmt := top 41
abbrev sTarget : Stmt := top 42
abbrev sFound : Stmt := top 43
abbrev sSame : Stmt := top 44
abbrev sReads : Stmt := top 45
abbrev sDo : Stmt := top 46
abbrev sBlksM : Stmt := cL 11
abbrev sRoomM : Stmt := cL 2
abbrev sRecordsM : Stmt := cL 8
abbrev sHoldersM : Stmt := cL 10
abbrev sNextM : Stmt := cL 12
abbrev sInitM : Stmt := cL 0
abbrev sLInit : Stmt := cL 0
abbrev sApply : Stmt := top 47
abbrev sSpare : Stmt := top 48
abbrev sElse : Stmt := top 49
abbrev sChoose : Stmt := top 50
abbrev sOrders : Stmt := top 51
abbrev sLaw : Stmt := top 52
abbrev sAtLeast : Stmt := top 2
end Sg

set_option Elab.async false
set_option linter.all false
set_option maxRecDepth 100000
set_option maxHeartbeats 4000000
namespace Sr
open Sg
open PySem PySem.Spec PyProof.Rows L2
/-! ### data -/
def intB : PyData → Bool
  | .int _ => true
  | .bool _ => true
  | _ => false
def boolB : PyData → Bool
  | .bool _ => true
  | _ => false
def strB : PyData → Bool
  | .str _ => true
  | _ => false
def tupB : PyData → Bool
  | .tuple _ => true
  | _ => false
def lstB : PyData → Bool
  | .list _ => true
  | _ => false
def wholeD : PyData → Bool
  | .int _ => true
  | _ => false
def atLeastD (lo : Int) : PyData → Bool
  | .int i => decide (lo ≤ i)
  | _ => false
def betwD (lo hi : Int) : PyData → Bool
  | .int i => decide (lo ≤ i) && decide (i ≤ hi)
  | _ => false
/-- what a value's type is, by its data -/
theorem dp_ty {K : PySem.W.Frag} {H : Hp} {x : V} {d : PyData} (h : Dp K H x d) : ∃ t, TyX K H x t ∧ PySem.W.kitOne K t (.type "int") = some (intB d) ∧ PySem.W.kitOne K t (.type "bool") = some (boolB d) ∧ PySem.W.kitOne K t (.type "str") = some (strB d) ∧
    PySem.W.kitOne K t (.type "tuple") = some (tupB d) ∧ PySem.W.kitOne K t (.type "list") = some (lstB d) := by
  cases h with
  | non => exact ⟨_, .base .non, (show PySem.W.kitOne K (.type "NoneType") (.type "int") = some false from kit_ty (by decide +kernel)), (show PySem.W.kitOne K (.type "NoneType") (.type "bool") = some false from kit_ty (by decide +kernel)), (show PySem.W.kitOne K (.type "NoneType") (.type "str") = some false from kit_ty (by decide +kernel)), (show PySem.W.kitOne K (.type "NoneType") (.type "tuple") = some false from kit_ty (by decide +kernel)), (show PySem.W.kitOne K (.type "NoneType") (.type "list") = some false from kit_ty (by decide +kernel))⟩
  | bl b => exact ⟨_, .base (.bl b), (show PySem.W.kitOne K (.type "bool") (.type "int") = some true from kit_ty (by decide +kernel)), (show PySem.W.kitOne K (.type "bool") (.type "bool") = some true from kit_ty (by decide +kernel)), (show PySem.W.kitOne K (.type "bool") (.type "str") = some false from kit_ty (by decide +kernel)), (show PySem.W.kitOne K (.type "bool") (.type "tuple") = some false from kit_ty (by decide +kernel)), (show PySem.W.kitOne K (.type "bool") (.type "list") = some false from kit_ty (by decide +kernel))⟩
  | int i => exact ⟨_, .base (.int i), (show PySem.W.kitOne K (.type "int") (.type "int") = some true from kit_ty (by decide +kernel)), (show PySem.W.kitOne K (.type "int") (.type "bool") = some false from kit_ty (by decide +kernel)), (show PySem.W.kitOne K (.type "int") (.type "str") = some false from kit_ty (by decide +kernel)), (show PySem.W.kitOne K (.type "int") (.type "tuple") = some false from kit_ty (by decide +kernel)), (show PySem.W.kitOne K (.type "int") (.type "list") = some false from kit_ty (by decide +kernel))⟩
  | str x => exact ⟨_, .base (.str x), (show PySem.W.kitOne K (.type "str") (.type "int") = some false from kit_ty (by decide +kernel)), (show PySem.W.kitOne K (.type "str") (.type "bool") = some false from kit_ty (by decide +kernel)), (show PySem.W.kitOne K (.type "str") (.type "str") = some true from kit_ty (by decide +kernel)), (show PySem.W.kitOne K (.type "str") (.type "tuple") = some false from kit_ty (by decide +kernel)), (show PySem.W.kitOne K (.type "str") (.type "list") = some false from kit_ty (by decide +kernel))⟩
  | lst hs _ =>
    refine ⟨.type "list", ?_, (show PySem.W.kitOne K (.type "list") (.type "int") = some false from kit_ty (by decide +kernel)), (show PySem.W.kitOne K (.type "list") (.type "bool") = some false from kit_ty (by decide +kernel)), (show PySem.W.kitOne K (.type "list") (.type "str") = some false from kit_ty (by decide +kernel)), (show PySem.W.kitOne K (.type "list") (.type "tuple") = some false from kit_ty (by decide +kernel)), (show PySem.W.kitOne K (.type "list") (.type "list") = some true from kit_ty (by decide +kernel))⟩
    rcases hs with (h | ⟨o, h⟩) | ⟨o, its, n, h1, h2, _⟩
    · exact .base (.lst h)
    · exact .base (.frz h)
    · exact .kList h1 h2
  | tup hs _ =>
    refine ⟨.type "tuple", ?_, (show PySem.W.kitOne K (.type "tuple") (.type "int") = some false from kit_ty (by decide +kernel)), (show PySem.W.kitOne K (.type "tuple") (.type "bool") = some false from kit_ty (by decide +kernel)), (show PySem.W.kitOne K (.type "tuple") (.type "str") = some false from kit_ty (by decide +kernel)), (show PySem.W.kitOne K (.type "tuple") (.type "tuple") = some true from kit_ty (by decide +kernel)), (show PySem.W.kitOne K (.type "tuple") (.type "list") = some false from kit_ty (by decide +kernel))⟩
    rcases hs with (h | ⟨o, h⟩) | ⟨o, its, n, h1, h2, _⟩
    · exact .base (.tup h)
    · exact .fTuple h
    · exact .kTuple h1 h2
theorem SqT_same {K : PySem.W.Frag} {H H' : Hp} {a : Addr} {xs : List V} (s : Same H H') (h : SqT K H a xs) : SqT K H' a xs := by
  rcases h with (h | ⟨o, h⟩) | h
  · exact .inl (.inl (s _ _ h))
  · exact .inl (.inr ⟨o, s _ _ h⟩)
  · exact .inr h
mutual
theorem dp_same {K : PySem.W.Frag} {H H' : Hp} (s : Same H H') : ∀ (d : PyData) (x : V), Dp K H x d → Dp K H' x d
  | .none, _, h => by cases h; exact .non
  | .bool _, _, h => by cases h; exact .bl _
  | .int _, _, h => by cases h; exact .int _
  | .str _, _, h => by cases h; exact .str _
  | .list ds, _, h => by
    cases h with
    | lst hs ha => exact .lst (s.seq hs) (dpAll_same s ds _ ha)
  | .tuple ds, _, h => by
    cases h with
    | tup hs ha => exact .tup (SqT_same s hs) (dpAll_same s ds _ ha)
  | .dict _, _, h => by cases h
theorem dpAll_same {K : PySem.W.Frag} {H H' : Hp} (s : Same H H') : ∀ (ds : List PyData) (xs : List V), DpAll K H xs ds → DpAll K H' xs ds
  | [], _, h => by cases h; exact .nil
  | d :: ds, _, h => by
    cases h with
    | cons a b => exact .cons (dp_same s d _ a) (dpAll_same s ds _ b)
end
structure Bds (mg : Str → Option Value) (fW : Addr) : Prop where
  isi : mg "isinstance" = none
  int : mg "int" = none
  bool : mg "bool" = none
  str : mg "str" = none
  tup : mg "tuple" = none
  lst : mg "list" = none
  gW : mg "is_whole" = some (.ref fW)
theorem boot_isi : bootBuiltins "isinstance" = some (.builtin "isinstance") := by decide +kernel
def spWhole (K : PySem.W.Frag) : Sp := fun vs H Q _ => ∃ x d, vs = [x] ∧ Dp K H x d ∧ Q (.bl (wholeD d)) H
def spAtLeast (K : PySem.W.Frag) : Sp := fun vs H Q _ => ∃ x d lo, vs = [x, .int lo] ∧ Dp K H x d ∧ Q (.bl (atLeastD lo d)) H
def spBetween (K : PySem.W.Frag) : Sp := fun vs H Q _ => ∃ x d lo hi, vs = [x, .int lo, .int hi] ∧ Dp K H x d ∧ Q (.bl (betwD lo hi d)) H
theorem whole_eq (d : PyData) : (intB d && !boolB d) = wholeD d := by cases d <;> rfl
theorem not_whole_at {lo : Int} {d : PyData} (h : wholeD d = false) : atLeastD lo d = false := by cases d <;> first | rfl | cases h
theorem not_whole_bt {lo hi : Int} {d : PyData} (h : wholeD d = false) : betwD lo hi d = false := by cases d <;> first | rfl | cases h
theorem whole_int {K : PySem.W.Frag} {H : Hp} {x : V} {d : PyData} (h : Dp K H x d) (w : wholeD d = true) : ∃ i, x = .int i ∧ d = .int i := by
  cases h <;> first | exact ⟨_, rfl, rfl⟩ | cases w
section
variable {P : Program} {wrl : World} {K : PySem.W.Frag} {mg : Str → Option Value} {base : Heap} {f fW : Addr} {fd fdW : FuncData}
theorem scWhole : FnScope ["value"] ["value"] (defScope sWhole) := ⟨rfl, rfl, rfl, by decide +kernel, rfl, by decide +kernel, by decide +kernel⟩
theorem ok_whole (F : Fun K "is_whole" "is_whole" sWhole f fd) (B : Bds mg fW) : FnOk P wrl K mg base CX0 1 f fd ["value"] (spWhole K) := by
  refine F.ok scWhole (fun vs H Q E h => ?_) (fun cdv A outer s H vs Q E hr h => ?_)
  · obtain ⟨x, d, rfl, _⟩ := h
    rfl
  · obtain ⟨x, d, rfl, hd, q⟩ := h
    obtain ⟨t, ty, h1, h2, _⟩ := dp_ty hd
    refine ⟨_, pss_one (ps_ret (pe_and (pe_callB call_isi (by rfl) B.isi boot_isi (pa_cons (pv 0) (pa_cons (pe_bltn (v := .ty "int") (by rfl) B.int boot_int rfl) pa_nil)))
      (pe_one (pe_not (pe_callB call_isi (by rfl) B.isi boot_isi (pa_cons (pv 0) (pa_cons (pe_bltn (v := .ty "bool") (by rfl) B.bool boot_bool rfl) pa_nil))))))), ?_⟩
    rw [← whole_eq] at q
    refine ⟨_, rfl, x, _, t, _, _, rfl, .ty "int", ty, h1, _, rfl, ?_⟩
    cases hb : intB d with
    | true =>
      rw [hb] at q
      exact iteT ⟨_, rfl, x, _, t, _, _, rfl, .ty "bool", ty, h2, _, rfl, q⟩
    | false =>
      rw [hb] at q
      exact iteF q
theorem scAtLeast : FnScope ["value", "low"] ["value", "low"] (defScope sAtLeast) := ⟨rfl, rfl, rfl, by decide +kernel, rfl, by decide +kernel, by decide +kernel⟩
theorem ok_atLeast (F : Fun K "is_at_least" "is_at_least" sAtLeast f fd) (B : Bds mg fW) (FW : Fun K "is_whole" "is_whole" sWhole fW fdW) (bW : Binds K fdW ["value"] []) : FnOk P wrl K mg base CX0 2 f fd ["value", "low"] (spAtLeast K) := by
  have GW : FnOk P wrl K mg base CX0 1 fW fdW ["value"] (spWhole K) := ok_whole FW B
  refine F.ok scAtLeast (fun vs H Q E h => ?_) (fun cdv A outer s H vs Q E hr h => ?_)
  · obtain ⟨x, d, lo, rfl, _⟩ := h
    rfl
  · obtain ⟨x, d, lo, rfl, hd, q⟩ := h
    refine ⟨_, pss_one (ps_ret (pe_and (pe_call GW hr (by rfl) B.gW FW.kp bW .nil pass0 (pa_cons (pv 0) pa_nil)) (pe_one (pe_cmpR op_ge (pv 0) (pv 1) (nomark _))))), ?_⟩
    refine ⟨_, rfl, x, d, rfl, hd, _, rfl, ?_⟩
    cases hw : wholeD d with
    | false =>
      rw [not_whole_at hw] at q
      exact iteF q
    | true =>
      obtain ⟨i, rfl, rfl⟩ := whole_int hd hw
      exact iteT ⟨_, rfl, _, rfl, _, _, rfl, rfl, q⟩
theorem scBetween : FnScope ["value", "low", "high"] ["value", "low", "high"] (defScope sBetween) := ⟨rfl, rfl, rfl, by decide +kernel, rfl, by decide +kernel, by decide +kernel⟩
theorem ok_between (F : Fun K "is_between" "is_between" sBetween f fd) (B : Bds mg fW) (FW : Fun K "is_whole" "is_whole" sWhole fW fdW) (bW : Binds K fdW ["value"] []) : FnOk P wrl K mg base CX0 2 f fd ["value", "low", "high"] (spBetween K) := by
  have GW : FnOk P wrl K mg base CX0 1 fW fdW ["value"] (spWhole K) := ok_whole FW B
  refine F.ok scBetween (fun vs H Q E h => ?_) (fun cdv A outer s H vs Q E hr h => ?_)
  · obtain ⟨x, d, lo, hi, rfl, _⟩ := h
    rfl
  · obtain ⟨x, d, lo, hi, rfl, hd, q⟩ := h
    refine ⟨_, pss_one (ps_ret (pe_and (pe_call GW hr (by rfl) B.gW FW.kp bW .nil pass0 (pa_cons (pv 0) pa_nil)) (pe_one (pe_chain op_le op_le (pv 1) (pv 0) (pv 2))))), ?_⟩
    refine ⟨_, rfl, x, d, rfl, hd, _, rfl, ?_⟩
    cases hw : wholeD d with
    | false =>
      rw [not_whole_bt hw] at q
      exact iteF q
    | true =>
      obtain ⟨i, rfl, rfl⟩ := whole_int hd hw
      refine iteT ⟨_, rfl, _, rfl, _, _, rfl, rfl, _, rfl, ?_⟩
      by_cases c : lo ≤ i
      · rw [show betwD lo hi (.int i) = (decide (lo ≤ i) && decide (i ≤ hi)) from rfl, decide_eq_true c] at q
        rw [if_pos (decide_eq_true c)]
        exact ⟨_, rfl, _, _, rfl, rfl, q⟩
      · rw [show betwD lo hi (.int i) = (decide (lo ≤ i) && decide (i ≤ hi)) from rfl, decide_eq_false c] at q
        rw [if_neg (by rw [decide_eq_false c]; exact Bool.false_ne_true)]
        exact q
end
end Sr

set_option Elab.async false
set_option linter.all false
set_option maxRecDepth 100000
set_option maxHeartbeats 4000000
namespace Sr
open Sg
open PySem PySem.Spec PyProof.Rows L2
def kindsL : List Str := ["mark", "make", "remove", "write", "trim", "snap", "drop", "register", "leave", "reserve", "release", "preempt"]
def fieldT : List (Str × List Str) := [("mark", ["told"]), ("make", ["namespace", "size"]), ("remove", ["namespace"]), ("write", ["namespace", "place", "value"]), ("trim", ["namespace", "place"]), ("snap", ["namespace"]), ("drop", ["namespace", "snapshot"]),
  ("register", ["namespace"]), ("leave", ["namespace", "held"]), ("reserve", ["namespace", "way"]), ("release", ["namespace"]), ("preempt", ["namespace", "victim", "way or none"])]
def strIn (s : Str) (ns : List Str) : Bool := ns.any fun y => decide (y = s)
theorem inV_str {s : Str} : ∀ {ns : List Str}, inV (.str s) (ns.map V.str) = strIn s ns
  | [] => rfl
  | n :: ns => by
    show (eqV (.str n) (.str s) || inV (.str s) (ns.map V.str)) = (decide (n = s) || strIn s ns)
    rw [inV_str (ns := ns)]
    rfl
theorem flat_strs : ∀ {ns : List Str}, (ns.map V.str).all flatV = true
  | [] => rfl
  | n :: ns => by rw [List.map_cons, List.all_cons, flat_strs (ns := ns)]; rfl
def strInD (ns : List Str) : PyData → Bool
  | .str s => strIn s ns
  | _ => false
def noneB : PyData → Bool
  | .none => true
  | _ => false
def pairB : PyData → Bool
  | .tuple [_, _] => true
  | _ => false
def toldD : PyData → Bool
  | .tuple [s, c, a] => atLeastD 1 s && (atLeastD 0 c && (noneB a || pairB a))
  | _ => false
def counterD (k : Str) (d : PyData) : Bool := if k = "mark" then betwD 0 0 d else atLeastD 1 d
def fieldD (n : Str) (d : PyData) (o : Int) : Bool :=
  if n = "namespace" then betwD 1 8 d else if n = "place" then betwD 0 63 d else if n = "value" then wholeD d else if n = "size" then betwD 1 64 d else if n = "snapshot" then betwD 1 (o - 1) d else if n = "victim" then betwD 0 3 d
  else if n = "held" then boolB d else if n = "told" then (noneB d || toldD d) else if n = "way or none" ∧ noneB d = true then true else strInD ["write", "alone"] d
/-- what the records' module has written -/
structure RX (K : PySem.W.Frag) (w : World) (mg : Str → Option Value) (aK aF : Addr) : Prop where
  gK : mg "KINDS" = some (.ref aK)
  sK : ∀ H, SqT K H aK (kindsL.map V.str)
  oK : ∃ o, K.lookup aK = some o ∧ o.cls = .type "tuple" ∧ o.dict = Option.none
  gF : mg "FIELDS" = some (.ref aF)
  fT : ∀ p ∈ fieldT, ∃ a, KDct K w aF p.1 (.ref a) ∧ ∀ H, SqT K H a (p.2.map V.str)
  gHd : ∃ t, mg "HEAD" = some (.int 5 t)
  gHo : ∃ t, mg "HOSTS" = some (.int 4 t)
  gNs : ∃ t, mg "NAMESPACES" = some (.int 8 t)
  gPl : ∃ t, mg "PLACES" = some (.int 64 t)
/-- a def of the module's own, ready to be called -/
structure Def (P : Program) (wd : World) (K : PySem.W.Frag) (mg : Str → Option Value) (base : Heap) (CX : CXT) (x : Str) (k : Nat) (ps : List Str) (sp : Sp) (f : Addr) (fd : FuncData) : Prop where
  ok : FnOk P wd K mg base CX k f fd ps sp
  bd : Binds K fd ps []
  kp : PySem.W.keepIn K (.ref f) = true
  mg : mg x = some (.ref f)
theorem str_eqT {x : Str} : decide (V.str x = V.str x) = true := decide_eq_true rfl
theorem str_eqF {x y : Str} (h : ¬ x = y) : decide (V.str x = V.str y) = false := decide_eq_false (fun z => h (by cases z; rfl))
def spKindQ (K : PySem.W.Frag) : Sp := fun vs H Q _ => ∃ x d, vs = [x] ∧ Dp K H x d ∧ Q (.bl (strInD kindsL d)) H
def spCounter (K : PySem.W.Frag) : Sp := fun vs H Q _ => ∃ x d k, vs = [x, .str k] ∧ Dp K H x d ∧ Q (.bl (counterD k d)) H
def spTold1 (K : PySem.W.Frag) : Sp := fun vs H Q _ => ∃ x d, vs = [x] ∧ Dp K H x d ∧ Q (.bl (toldD d)) H
section
variable {P : Program} {wrl : World} {K : PySem.W.Frag} {mg : Str → Option Value} {base : Heap} {f fW fA fB fT aK aF : Addr} {fd fdW fdA fdB fdT : FuncData}
theorem scIsKind : FnScope ["value"] ["value"] (defScope sIsKind) := ⟨rfl, rfl, rfl, by decide +kernel, rfl, by decide +kernel, by decide +kernel⟩
theorem ok_isKind (F : Fun K "_is_kind" "_is_kind" sIsKind f fd) (B : Bds mg fW) (R : RX K wrl mg aK aF) : FnOk P wrl K mg base CX0 1 f fd ["value"] (spKindQ K) := by
  refine F.ok scIsKind (fun vs H Q E h => ?_) (fun cdv A outer s H vs Q E hr h => ?_)
  · obtain ⟨x, d, rfl, _⟩ := h
    rfl
  · obtain ⟨x, d, rfl, hd, q⟩ := h
    obtain ⟨t, ty, _, _, h3, _⟩ := dp_ty hd
    refine ⟨_, pss_one (ps_ret (pe_and (pe_callB call_isi (by rfl) B.isi boot_isi (pa_cons (pv 0) (pa_cons (pe_bltn (v := .ty "str") (by rfl) B.str boot_str rfl) pa_nil)))
      (pe_one (pe_cmpR op_in_seq (pv 0) (pe_glob (v := .ref aK) (by rfl) R.gK rfl) (by rfl))))), ?_⟩
    refine ⟨_, rfl, x, _, t, _, _, rfl, .ty "str", ty, h3, _, rfl, ?_⟩
    cases hd with
    | str z =>
      refine iteT ⟨_, rfl, aK, _, rfl, .inr (R.sK H), rfl, flat_strs, ?_⟩
      have e : inV (.str z) (kindsL.map V.str) = strInD kindsL (.str z) := inV_str
      rw [← e] at q
      exact q
    | non => exact iteF q
    | bl b => exact iteF q
    | int i => exact iteF q
    | lst h1 h2 => exact iteF q
    | tup h1 h2 => exact iteF q
theorem scIsCounter : FnScope ["value", "kind"] ["value", "kind"] (defScope sIsCounter) := ⟨rfl, rfl, rfl, by decide +kernel, rfl, by decide +kernel, by decide +kernel⟩
theorem ok_isCounter (F : Fun K "_is_counter" "_is_counter" sIsCounter f fd) (GA : Def P wrl K mg base CX0 "is_at_least" 2 ["value", "low"] (spAtLeast K) fA fdA) (GB : Def P wrl K mg base CX0 "is_between" 2 ["value", "low", "high"] (spBetween K) fB fdB) :
    FnOk P wrl K mg base CX0 3 f fd ["value", "kind"] (spCounter K) := by
  refine F.ok scIsCounter (fun vs H Q E h => ?_) (fun cdv A outer s H vs Q E hr h => ?_)
  · obtain ⟨x, d, k, rfl, _⟩ := h
    rfl
  · obtain ⟨x, d, k, rfl, hd, q⟩ := h
    refine ⟨_, pss_cons (ps_if (pt_cmpR op_eq (pv 1) pe_str (nomark _)) (pss_one (ps_ret (pe_call GB.ok hr (by rfl) GB.mg GB.kp GB.bd .nil pass0 (pa_cons (pv 0) (pa_cons pe_int (pa_cons pe_int pa_nil)))))) pss_nil)
      (pss_one (ps_ret (pe_call GA.ok hr (by rfl) GA.mg GA.kp GA.bd .nil pass0 (pa_cons (pv 0) (pa_cons pe_int pa_nil))))), ?_⟩
    refine ⟨_, rfl, rfl, _, rfl, ?_⟩
    by_cases hk : k = "mark"
    · subst hk
      rw [show counterD "mark" d = betwD 0 0 d from if_pos rfl] at q
      rw [str_eqT]
      exact iteT ⟨_, rfl, x, d, 0, 0, rfl, hd, q⟩
    · rw [show counterD k d = atLeastD 1 d from if_neg hk] at q
      rw [str_eqF hk]
      exact iteF ⟨_, rfl, x, d, 1, rfl, hd, q⟩
theorem scIsTold : FnScope ["value", "session", "counter", "answer"] ["value"] (defScope sIsTold) := ⟨rfl, rfl, rfl, by decide +kernel, rfl, by decide +kernel, by decide +kernel⟩
theorem dpAll_len {K : PySem.W.Frag} {H : Hp} : ∀ {xs : List V} {ds : List PyData}, DpAll K H xs ds → xs.length = ds.length
  | _, _, .nil => rfl
  | _, _, .cons _ b => by rw [List.length_cons, List.length_cons, dpAll_len b]
theorem dpAll_cons {K : PySem.W.Frag} {H : Hp} {xs : List V} {d : PyData} {ds : List PyData} (h : DpAll K H xs (d :: ds)) : ∃ x xs', xs = x :: xs' ∧ Dp K H x d ∧ DpAll K H xs' ds := by
  cases h with
  | cons a b => exact ⟨_, _, rfl, a, b⟩
theorem dpAll_nil {K : PySem.W.Frag} {H : Hp} {xs : List V} (h : DpAll K H xs []) : xs = [] := by cases h; rfl
theorem dpAll_3 {K : PySem.W.Frag} {H : Hp} {xs : List V} {ds : List PyData} (h : DpAll K H xs ds) (h3 : ds.length = 3) : ∃ x1 x2 x3 d1 d2 d3, xs = [x1, x2, x3] ∧ ds = [d1, d2, d3] ∧ Dp K H x1 d1 ∧ Dp K H x2 d2 ∧ Dp K H x3 d3 := by
  match ds, h3 with
  | [d1, d2, d3], _ =>
    obtain ⟨x1, r1, rfl, a1, b1⟩ := dpAll_cons h
    obtain ⟨x2, r2, rfl, a2, b2⟩ := dpAll_cons b1
    obtain ⟨x3, r3, rfl, a3, b3⟩ := dpAll_cons b2
    obtain rfl := dpAll_nil b3
    exact ⟨_, _, _, _, _, _, rfl, rfl, a1, a2, a3⟩
theorem dp_non {K : PySem.W.Frag} {H : Hp} {x : V} {d : PyData} (h : Dp K H x d) : decide (x = .non) = noneB d := by
  cases h <;> first | exact decide_eq_true rfl | exact decide_eq_false (by intro z; cases z)
theorem dp_tup {K : PySem.W.Frag} {H : Hp} {x : V} {d : PyData} (h : Dp K H x d) (t : tupB d = true) : ∃ a xs ds, x = .ref a ∧ d = .tuple ds ∧ SqT K H a xs ∧ DpAll K H xs ds := by
  cases h <;> first | exact ⟨_, _, _, rfl, rfl, ‹_›, ‹_›⟩ | cases t
theorem ok_isTold (F : Fun K "_is_told" "_is_told" sIsTold f fd) (B : Bds mg fW) (hlen : mg "len" = none) (GA : Def P wrl K mg base CX0 "is_at_least" 2 ["value", "low"] (spAtLeast K) fA fdA) :
    FnOk P wrl K mg base CX0 3 f fd ["value"] (spTold1 K) := by
  refine F.ok scIsTold (fun vs H Q E h => ?_) (fun cdv A outer s H vs Q E hr h => ?_)
  · obtain ⟨x, d, rfl, _⟩ := h
    rfl
  · obtain ⟨x, d, rfl, hd, q⟩ := h
    obtain ⟨t, ty, _, _, _, h4, _⟩ := dp_ty hd
    refine ⟨_, pss_cons (ps_if (PW.pt (pw_or (pt_not (pt_val (pe_callB call_isi (by rfl) B.isi boot_isi (pa_cons (pv 0) (pa_cons (pe_bltn (v := .ty "tuple") (by rfl) B.tup boot_tuple rfl) pa_nil))))) (pw_or1 (pt_cmpR op_ne (pe_callB call_len_seq (by rfl) hlen PySem.boot_len (pa_cons (pv 0) pa_nil)) pe_int (nomark _))))) (pss_one (ps_ret pe_bl)) pss_nil)
      (pss_cons (ps_asg (pv 0) (pg_tup (by rfl) (pgs_cons (pg_name (i := 1) scIsTold.nd rfl (Or.inl rfl)) (pgs_cons (pg_name (i := 2) scIsTold.nd rfl (Or.inl rfl)) (pgs_cons (pg_name (i := 3) scIsTold.nd rfl (Or.inl rfl)) L2.pgs_nil)))))
      (pss_cons (ps_if (PW.pt (pw_or (pt_not (pt_val (pe_call GA.ok hr (by rfl) GA.mg GA.kp GA.bd .nil pass0 (pa_cons (pv 1) (pa_cons pe_int pa_nil))))) (pw_or1 (pt_not (pt_val (pe_call GA.ok hr (by rfl) GA.mg GA.kp GA.bd .nil pass0 (pa_cons (pv 2) (pa_cons pe_int pa_nil)))))))) (pss_one (ps_ret pe_bl)) pss_nil)
      (pss_one (ps_ret (pe_or (pe_cmpR op_isN (pv 3) pe_non (nomark _)) (pe_one (pe_and (pe_callB call_isi (by rfl) B.isi boot_isi (pa_cons (pv 3) (pa_cons (pe_bltn (v := .ty "tuple") (by rfl) B.tup boot_tuple rfl) pa_nil))) (pe_one (pe_cmpR op_eq (pe_callB call_len_seq (by rfl) hlen PySem.boot_len (pa_cons (pv 3) pa_nil)) pe_int (nomark _)))))))))), ?_⟩
    refine ⟨_, rfl, x, _, t, _, _, rfl, .ty "tuple", ty, h4, _, rfl, ?_⟩
    cases ht : tupB d with
    | false =>
      have e : toldD d = false := by cases d <;> first | rfl | cases ht
      rw [e] at q
      exact iteT (iteT q)
    | true =>
      refine iteF ?_
      obtain ⟨a, xs, ds, rfl, rfl, hs, ha⟩ := dp_tup hd ht
      refine ⟨_, rfl, a, xs, rfl, .inr hs, rfl, _, rfl, ?_⟩
      have hl := dpAll_len ha
      by_cases h3 : ds.length = 3
      · rw [decide_eq_true (show V.int (xs.length : Int) = V.int 3 by rw [hl, h3]; rfl)]
        refine iteF ?_
        obtain ⟨x1, x2, x3, d1, d2, d3, rfl, rfl, e1, e2, e3⟩ := dpAll_3 ha h3
        refine ⟨_, rfl, a, _, rfl, hs, rfl, _, _, rfl, _, _, rfl, _, _, rfl, rfl, ?_⟩
        have q' : Q (.bl (atLeastD 1 d1 && (atLeastD 0 d2 && (noneB d3 || pairB d3)))) H := q
        refine ⟨_, rfl, x1, d1, 1, rfl, e1, _, rfl, ?_⟩
        cases b1 : atLeastD 1 d1 with
        | false => rw [b1] at q'; exact iteT (iteT q')
        | true =>
          rw [b1] at q'
          refine iteF ⟨_, rfl, x2, d2, 0, rfl, e2, _, rfl, ?_⟩
          cases b2 : atLeastD 0 d2 with
          | false => rw [b2] at q'; exact iteT q'
          | true =>
            rw [b2] at q'
            refine iteF ?_
            have q3 : Q (.bl (noneB d3 || pairB d3)) H := q'
            refine ⟨_, rfl, rfl, _, rfl, ?_⟩
            rw [dp_non e3]
            cases n3 : noneB d3 with
            | true => rw [n3] at q3; exact iteT q3
            | false =>
              rw [n3] at q3
              obtain ⟨t3, ty3, _, _, _, k4, _⟩ := dp_ty e3
              refine iteF ⟨_, rfl, x3, _, t3, _, _, rfl, .ty "tuple", ty3, k4, _, rfl, ?_⟩
              cases ht3 : tupB d3 with
              | false =>
                have e : pairB d3 = false := by cases d3 <;> first | rfl | cases ht3
                rw [e] at q3
                exact iteF q3
              | true =>
                obtain ⟨a3, ys, es, rfl, rfl, hs3, ha3⟩ := dp_tup e3 ht3
                refine iteT ⟨_, rfl, a3, ys, rfl, .inr hs3, rfl, ?_⟩
                have hl3 := dpAll_len ha3
                have e : decide (V.int (ys.length : Int) = V.int 2) = pairB (.tuple es) := by
                  rw [hl3]
                  match es with
                  | [] => exact decide_eq_false (by intro z; injection z with z; cases z)
                  | [_] => exact decide_eq_false (by intro z; injection z with z; cases z)
                  | [_, _] => exact decide_eq_true rfl
                  | _ :: _ :: _ :: r => exact decide_eq_false (by intro z; injection z with z; simp only [List.length_cons] at z; omega)
                rw [e]
                exact q3
      · have e : toldD (.tuple ds) = false := by
          match ds, h3 with
          | [], _ => rfl
          | [_], _ => rfl
          | [_, _], _ => rfl
          | [_, _, _], h => exact absurd rfl h
          | _ :: _ :: _ :: _ :: _, _ => rfl
        rw [e] at q
        rw [decide_eq_false (show ¬ V.int (xs.length : Int) = V.int 3 by rw [hl]; intro z; injection z with z; omega)]
        exact iteT q
end
end Sr

set_option Elab.async false
set_option linter.all false
set_option maxRecDepth 100000
set_option maxHeartbeats 4000000
namespace Sr
open Sg
open PySem PySem.Spec PyProof.Rows L2 HT
section
variable {prog : Program} {w : World} {A : Around} {E : Value → Shared → Prop} {s : Shared}
/-- t[lo:hi] that takes all of a tuple is the tuple itself -/
theorem tup_all {t sl : Addr} {items : Array Value} {vl vu : Value} {lo hi : Option Int} {Q : Value → Shared → Prop} (ht : IsTup s.heap t items) (hs : s.heap.IsSliceOf sl vl vu .none) (pl : IsPart vl lo) (pu : IsPart vu hi)
    (h1 : sIx items.size 0 lo = 0) (h2 : sIx items.size items.size hi = items.size) (h : Q (.ref t) s) : wpAny (model prog w) A (getItem (.ref t) (.ref sl)) Q E s := by
  obtain ⟨os, hos, hcs, hds⟩ := id hs
  have hTs : s.TypeIs (.ref sl) "slice" := ⟨os, hos, hcs⟩
  unfold getItem
  try with_reducible refine wpAny_holding ?_
  first | refine wpAny_bind (wpAny_pure ?_) | skip
  refine wpAny_bind (wpAny_sequenceKey ht.typeIs (by decide) ?_)
  refine wpAny_bind (wpAny_callSpecial?_slot (name := Str.ofString "__getitem__") ht.typeIs PyProof.Rows.slot_tuple_getitem
    (wpAny_call_entry PyProof.Rows.slot_tuple_getitem ht.typeIs entry_tuple_getitem ?_ (args_tuple_getitem _ _)))
  show wpAny _ _ (Builtin.Tuple.tupleItemsOf (.ref t) >>= _) _ _ s
  refine wpAny_bind (tupleItemsOf_ ht (wpAny_bind (wpAny_typeOf hTs ?_)))
  rw [if_pos (by decide)]
  refine wpAny_bind (sliceApplied_gen hs pl pu ?_)
  rw [h1, h2]
  show wpAny _ _ (if (((0 : Nat) : Int) == 0 && (1 : Int) == 1 && (items.size - 0) == items.size) = true then _ else _) _ _ s
  rw [if_pos (by simp)]
  show wpAny _ _ (Builtin.Tuple.tupleIsExact (.ref t) >>= _) _ _ s
  refine wpAny_bind (m := Builtin.Tuple.tupleIsExact _) ?_
  unfold Builtin.Tuple.tupleIsExact
  refine wpAny_bind (wpAny_typeOf ht.typeIs (wpAny_pure ?_))
  rw [if_pos (by decide)]
  exact wpAny_bind (wpAny_rule (wpAny_pure ⟨_, rfl, wpAny_pure h⟩))
end
section
variable {X : Cx}
/-- t[lo:hi], a part or all of a tuple -/
def rSlA (K : PySem.W.Frag) : V → Option Int → Option Int → Hp → VK → Prop := fun x lo hi H Q => ∃ a xs, x = .ref a ∧ SqT K H a xs ∧ ∀ p H', Same H H' → SqT K H' p (cutV xs lo hi) → Q (.ref p) H'
theorem sl_any : SlR X (rSlA X.K) := by
  intro pins s σ H x v vl vu lo hi sl Q I rx hs pl pu h
  obtain ⟨a, xs, rfl, hx, q⟩ := h
  by_cases hw : sIx xs.length 0 lo = 0 ∧ sIx xs.length xs.length hi = xs.length
  · cases rx
    obtain ⟨its, r, ht, hz⟩ := I.tuple hx
    have hlen : its.toArray.size = xs.length := by rw [List.size_toArray]; exact r.length.symm
    refine ⟨"tuple", _, PyProof.Rows.slot_tuple_getitem.lookup, ht.typeIs, ?_⟩
    refine tup_all ht hs pl pu (by rw [hlen]; exact hw.1) (by rw [hlen]; exact hw.2) ⟨.ref a, H, I, rfl, q a H (Same.refl H) ?_⟩
    have e : cutV xs lo hi = xs := by
      unfold cutV
      rw [hw.1, hw.2]
      simp
    rw [e]
    exact hx
  · exact sl_tup pins s σ H (.ref a) v vl vu lo hi sl Q I rx hs pl pu ⟨a, xs, rfl, hx, hw, fun p hp => q p _ (same_new hp) (SqT.of upd_same)⟩
/-- x is b, x is not b: b True or False -/
def rIsB (neg : Bool) : R2 := fun x y H Q => ∃ b c, y = .bl b ∧ x = .bl c ∧ Q (.bl (if neg then !decide (c = b) else decide (c = b))) H
theorem op_isB : OpR X (compareOp .Is) (rIsB false) := by
  intro pins s σ H x y v u Q I rx ry h
  obtain ⟨b, c, rfl, rfl, q⟩ := h
  cases rx
  cases ry
  have e : (Value.bool c == Value.bool b) = decide (c = b) := by cases b <;> cases c <;> rfl
  exact wpAny_is_plain rfl ⟨.bl (decide (c = b)), H, I, by rw [e]; rfl, q⟩
theorem op_isNotB : OpR X (compareOp .IsNot) (rIsB true) := by
  intro pins s σ H x y v u Q I rx ry h
  obtain ⟨b, c, rfl, rfl, q⟩ := h
  cases rx
  cases ry
  have e : (Value.bool c == Value.bool b) = decide (c = b) := by cases b <;> cases c <;> rfl
  show wpAny _ _ ((isSame (Value.bool c) (Value.bool b)) >>= fun z => pure (Value.bool (!z))) _ _ s
  exact wpAny_bind (wpAny_isSame_plain rfl (wpAny_pure ⟨.bl (!decide (c = b)), H, I, by rw [e]; rfl, q⟩))
/-- t.index(x) of texts -/
def rTIndex (K : PySem.W.Frag) : V → List V → Hp → VK → Prop := fun x xs H Q => ∃ (a : Addr) (ys : List Str) (y : Str), x = V.ref a ∧ xs = [.str y] ∧ SqT K H a (ys.map V.str) ∧ y ∈ ys ∧ Q (.int (ys.idxOf y : Nat)) H
theorem mt_tindex : MtR X "tuple.index" (rTIndex X.K) := by
  intro pins s σ H x xs v us Q I rx rxs h
  obtain ⟨a, ys, y, rfl, rfl, hs, hy, q⟩ := h
  cases rx
  obtain ⟨its, r, ht, hz⟩ := I.tuple hs
  match us, rxs with
  | [u], .cons ru .nil =>
    obtain ⟨t, rfl⟩ := ru
    exact PySem.SeqAt.tuple_index_strs (vs := its) ht (Vals.strs r) hy ⟨.int (ys.idxOf y : Nat), H, I.tok _, ⟨_, rfl⟩, q⟩
end
end Sr

set_option Elab.async false
set_option linter.all false
set_option maxRecDepth 100000
set_option maxHeartbeats 4000000
namespace Sr
open Sg
open PySem PySem.Spec PyProof.Rows L2
def spField (K : PySem.W.Frag) : Sp := fun vs H Q _ => ∃ n x d o, vs = [.str n, x, .int o] ∧ Dp K H x d ∧ ∀ H', Same H H' → Q (.bl (fieldD n d o)) H'
def spCount : Sp := fun vs H Q _ => ∃ p, p ∈ fieldT ∧ vs = [.str p.1] ∧ Q (.int (p.2.length : Int)) H
def fieldsD (ns : List Str) (ds : List PyData) (o : Int) : Bool := (ns.zip ds).all fun p => fieldD p.1 p.2 o
def recD : PyData → Bool
  | .tuple (.int o :: .str k :: h :: s :: c :: fs) => (match fieldT.lookup k with
    | some ns => decide (fs.length = ns.length) && (decide (1 ≤ o) && betwD 0 3 h && (atLeastD 1 s && counterD k c && fieldsD ns fs o))
    | none => false)
  | _ => false
theorem kind_in {k : Str} (h : strIn k kindsL = true) : ∃ ns, (k, ns) ∈ fieldT ∧ fieldT.lookup k = some ns := by
  unfold strIn at h
  rw [List.any_eq_true] at h
  obtain ⟨y, hy, e⟩ := h
  obtain rfl : y = k := of_decide_eq_true e
  have : ∀ y ∈ kindsL, (fieldT.find? (fun p => p.1 == y)).isSome = true ∧ (fieldT.lookup y).isSome = true := by decide +kernel
  have h2 := (this y hy).2
  cases e2 : fieldT.lookup y with
  | none => rw [e2] at h2; cases h2
  | some ns =>
    exact ⟨ns, PySem.mem_of_lookup e2, rfl⟩
section
variable {P : Program} {wrl : World} {K : PySem.W.Frag} {mg : Str → Option Value} {base : Heap} {f fW fA fB fT fK fC fF C CN CS aK aF : Addr} {fd fdW fdA fdB fdT fdK fdC fdF : FuncData}
theorem scIsField : FnScope ["name", "value", "order"] ["name", "value", "order"] (defScope sIsField) := ⟨rfl, rfl, rfl, by decide +kernel, rfl, by decide +kernel, by decide +kernel⟩
theorem ok_isField (F : Fun K "_is_field" "_is_field" sIsField f fd) (B : Bds mg fW) (R : RX K wrl mg aK aF) (GW : Def P wrl K mg base CX0 "is_whole" 1 ["value"] (spWhole K) fW fdW)
    (GB : Def P wrl K mg base CX0 "is_between" 2 ["value", "low", "high"] (spBetween K) fB fdB) (GT : Def P wrl K mg base CX0 "_is_told" 3 ["value"] (spTold1 K) fT fdT) :
    FnOk P wrl K mg base CX0 4 f fd ["name", "value", "order"] (spField K) := by
  obtain ⟨t1, hHo⟩ := R.gHo
  obtain ⟨t2, hNs⟩ := R.gNs
  obtain ⟨t3, hPl⟩ := R.gPl
  refine F.ok scIsField (fun vs H Q E h => ?_) (fun cdv A outer s H vs Q E hr h => ?_)
  · obtain ⟨n, x, d, o, rfl, _⟩ := h
    rfl
  · obtain ⟨n, x, d, o, rfl, hd, q⟩ := h
    have hr2 : Room 2 _ := hr.mono (by decide)
    have hr1 : Room 1 _ := hr.mono (by decide)
    obtain ⟨t, ty, _, k2, k3, _⟩ := dp_ty hd
    refine ⟨_, pss_cons (ps_if (pt_cmpR op_eq (pv 0) pe_str (nomark _)) (pss_one (ps_ret (pe_call GB.ok hr2 (by rfl) GB.mg GB.kp GB.bd .nil pass0 (pa_cons (pv 1) (pa_cons pe_int (pa_cons (pe_glob (v := .int 8) (by rfl) hNs ⟨_, rfl⟩) pa_nil)))))) pss_nil)
      (pss_cons (ps_if (pt_cmpR op_eq (pv 0) pe_str (nomark _)) (pss_one (ps_ret (pe_call GB.ok hr2 (by rfl) GB.mg GB.kp GB.bd .nil pass0 (pa_cons (pv 1) (pa_cons pe_int (pa_cons (pe_op op_sub (pe_glob (v := .int 64) (by rfl) hPl ⟨_, rfl⟩) pe_int) pa_nil)))))) pss_nil)
      (pss_cons (ps_if (pt_cmpR op_eq (pv 0) pe_str (nomark _)) (pss_one (ps_ret (pe_call GW.ok hr1 (by rfl) GW.mg GW.kp GW.bd .nil pass0 (pa_cons (pv 1) pa_nil)))) pss_nil)
      (pss_cons (ps_if (pt_cmpR op_eq (pv 0) pe_str (nomark _)) (pss_one (ps_ret (pe_call GB.ok hr2 (by rfl) GB.mg GB.kp GB.bd .nil pass0 (pa_cons (pv 1) (pa_cons pe_int (pa_cons (pe_glob (v := .int 64) (by rfl) hPl ⟨_, rfl⟩) pa_nil)))))) pss_nil)
      (pss_cons (ps_if (pt_cmpR op_eq (pv 0) pe_str (nomark _)) (pss_one (ps_ret (pe_call GB.ok hr2 (by rfl) GB.mg GB.kp GB.bd .nil pass0 (pa_cons (pv 1) (pa_cons pe_int (pa_cons (pe_op op_sub (pv 2) pe_int) pa_nil)))))) pss_nil)
      (pss_cons (ps_if (pt_cmpR op_eq (pv 0) pe_str (nomark _)) (pss_one (ps_ret (pe_call GB.ok hr2 (by rfl) GB.mg GB.kp GB.bd .nil pass0 (pa_cons (pv 1) (pa_cons pe_int (pa_cons (pe_op op_sub (pe_glob (v := .int 4) (by rfl) hHo ⟨_, rfl⟩) pe_int) pa_nil)))))) pss_nil)
      (pss_cons (ps_if (pt_cmpR op_eq (pv 0) pe_str (nomark _)) (pss_one (ps_ret (pe_callB call_isi (by rfl) B.isi boot_isi (pa_cons (pv 1) (pa_cons (pe_bltn (v := .ty "bool") (by rfl) B.bool boot_bool rfl) pa_nil))))) pss_nil)
      (pss_cons (ps_if (pt_cmpR op_eq (pv 0) pe_str (nomark _)) (pss_one (ps_ret (pe_or (pe_cmpR op_isN (pv 1) pe_non (nomark _)) (pe_one (pe_call GT.ok hr (by rfl) GT.mg GT.kp GT.bd .nil pass0 (pa_cons (pv 1) pa_nil)))))) pss_nil)
      (pss_cons (ps_if (PW.pt (pw_and (pt_cmpR op_eq (pv 0) pe_str (nomark _)) (pw_and1 (pt_cmpR op_isN (pv 1) pe_non (nomark _))))) (pss_one (ps_ret pe_bl)) pss_nil)
      (pss_one (ps_ret (pe_and (pe_callB call_isi (by rfl) B.isi boot_isi (pa_cons (pv 1) (pa_cons (pe_bltn (v := .ty "str") (by rfl) B.str boot_str rfl) pa_nil))) (pe_one (pe_cmpR op_in_seq (pv 1) (pe_tup (pa_cons pe_str (pa_cons pe_str pa_nil))) (by rfl)))))))))))))), ?_⟩
    have q0 := q H (Same.refl H)
    unfold fieldD at q q0
    refine ⟨_, rfl, rfl, _, rfl, ?_⟩
    by_cases h1 : n = "namespace"
    · rw [if_pos h1] at q0; subst h1; rw [str_eqT]
      exact iteT ⟨_, rfl, x, d, 1, 8, rfl, hd, q0⟩
    rw [if_neg h1] at q q0; rw [str_eqF h1]
    refine iteF ⟨_, rfl, rfl, _, rfl, ?_⟩
    by_cases h2 : n = "place"
    · rw [if_pos h2] at q0; subst h2; rw [str_eqT]
      exact iteT ⟨_, rfl, _, _, rfl, rfl, x, d, 0, 63, rfl, hd, q0⟩
    rw [if_neg h2] at q q0; rw [str_eqF h2]
    refine iteF ⟨_, rfl, rfl, _, rfl, ?_⟩
    by_cases h3 : n = "value"
    · rw [if_pos h3] at q0; subst h3; rw [str_eqT]
      exact iteT ⟨_, rfl, x, d, rfl, hd, q0⟩
    rw [if_neg h3] at q q0; rw [str_eqF h3]
    refine iteF ⟨_, rfl, rfl, _, rfl, ?_⟩
    by_cases h4 : n = "size"
    · rw [if_pos h4] at q0; subst h4; rw [str_eqT]
      exact iteT ⟨_, rfl, x, d, 1, 64, rfl, hd, q0⟩
    rw [if_neg h4] at q q0; rw [str_eqF h4]
    refine iteF ⟨_, rfl, rfl, _, rfl, ?_⟩
    by_cases h5 : n = "snapshot"
    · rw [if_pos h5] at q0; subst h5; rw [str_eqT]
      exact iteT ⟨_, rfl, _, rfl, _, _, rfl, rfl, x, d, 1, o - 1, rfl, hd, q0⟩
    rw [if_neg h5] at q q0; rw [str_eqF h5]
    refine iteF ⟨_, rfl, rfl, _, rfl, ?_⟩
    by_cases h6 : n = "victim"
    · rw [if_pos h6] at q0; subst h6; rw [str_eqT]
      exact iteT ⟨_, rfl, _, _, rfl, rfl, x, d, 0, 3, rfl, hd, q0⟩
    rw [if_neg h6] at q q0; rw [str_eqF h6]
    refine iteF ⟨_, rfl, rfl, _, rfl, ?_⟩
    by_cases h7 : n = "held"
    · rw [if_pos h7] at q0; subst h7; rw [str_eqT]
      exact iteT ⟨_, rfl, x, _, t, _, _, rfl, .ty "bool", ty, k2, q0⟩
    rw [if_neg h7] at q q0; rw [str_eqF h7]
    refine iteF ⟨_, rfl, rfl, _, rfl, ?_⟩
    by_cases h8 : n = "told"
    · rw [if_pos h8] at q0; subst h8; rw [str_eqT]
      refine iteT ⟨_, rfl, rfl, _, rfl, ?_⟩
      rw [dp_non hd]
      cases n3 : noneB d with
      | true => rw [n3] at q0; exact iteT q0
      | false => rw [n3] at q0; exact iteF ⟨_, rfl, x, d, rfl, hd, q0⟩
    rw [if_neg h8] at q q0; rw [str_eqF h8]
    refine iteF ⟨_, rfl, rfl, _, rfl, ?_⟩
    have last : (∀ H', Same H H' → Q (.bl (strInD ["write", "alone"] d)) H') → tAndV (tCB (rIsi K) (tCons (tVar 1) (tCons (tC (.ty "str")) tNil))) (tOp (rIn K false) (tVar 1) (tTup (tCons (tC (.str "write")) (tCons (tC (.str "alone")) tNil)))) [some (.str n), some x, some (.int o)] H Q := by
      intro q
      refine ⟨_, rfl, x, _, t, _, _, rfl, .ty "str", ty, k3, _, rfl, ?_⟩
      cases hd with
      | str z =>
        refine iteT ⟨_, rfl, by show 2 ≤ sizeLine; decide, fun tt ht => ⟨tt, _, rfl, .inr (SqT.of upd_same), rfl, rfl, ?_⟩⟩
        have e : inV (.str z) ((["write", "alone"] : List Str).map V.str) = strInD ["write", "alone"] (.str z) := inV_str
        have := q _ (same_new (o := .tup [.str "write", .str "alone"]) ht)
        rw [← e] at this
        exact this
      | non => exact iteF (q H (Same.refl H))
      | bl b => exact iteF (q H (Same.refl H))
      | int i => exact iteF (q H (Same.refl H))
      | lst h1 h2 => exact iteF (q H (Same.refl H))
      | tup h1 h2 => exact iteF (q H (Same.refl H))
    by_cases h9 : n = "way or none"
    · rw [decide_eq_true (show V.str n = V.str "way or none" by rw [h9])]
      refine iteT ⟨_, rfl, rfl, _, rfl, ?_⟩
      rw [dp_non hd]
      cases n3 : noneB d with
      | true =>
        rw [if_pos ⟨h9, n3⟩] at q0
        exact iteT q0
      | false =>
        rw [if_neg (by rintro ⟨_, z⟩; rw [n3] at z; cases z)] at q
        refine iteF ?_
        exact last q
    · rw [if_neg (by rintro ⟨z, _⟩; exact h9 z)] at q
      rw [str_eqF h9]
      refine iteF (iteF ?_)
      exact last q
end
end Sr

set_option Elab.async false
set_option linter.all false
set_option maxRecDepth 100000
set_option maxHeartbeats 4000000
namespace Sr
open Sg
open PySem PySem.Spec PyProof.Rows L2
/-- what is known of the error -/
structure NV (K : PySem.W.Frag) (mg : Str → Option Value) (CN CS : Addr) : Prop where
  gN : mg "NotValid" = some (.ref CN)
  xN : PySem.W.excIn K CN [.type "ValueError", .type "Exception", .type "BaseException", .type "object"] "ValueError.__new__" = true
  kN : PySem.W.keepIn K (.ref CN) = true
  bN : PySem.W.subIn K (.ref CN) (.type "BaseException") = some true
  tN : PySem.W.typeIn K (.ref CN) = some (.type "type")
  gS : mg "SpindleError" = some (.ref CS)
  eN : PySem.W.exmOne K (.ref CN) (.ref CS) = some true
theorem ps_notValid {X : Cx} {W : WX} {p pos pos2 : Pos} {CN CS : Addr} (T : NV X.K X.mg CN CS) (hc : X.calm = true) (tk : Takes X W) (hg : Gl X "NotValid") : PS X (.Raise (some (.Call (.Name "NotValid" p) [] [] pos)) none pos2) (fun _ σ H => W (.ref CN) Option.none σ H) :=
  ps_raise hc tk (pmk_own0 PySem.F.excBase_ValueError T.xN T.gN T.kN (raises_own T.bN T.tN) hg)
theorem yesIte {σ : L2.St} {H : Hp} {A B : Hp → Prop} (h : A H) : tYes σ H (fun b H3 => if b = true then A H3 else B H3) := by
  show (if true = true then A H else B H)
  rw [if_pos rfl]; exact h
theorem nil_ {σ : L2.St} {H : Hp} {Q : List V → Hp → Prop} (h : Q [] H) : tNil σ H Q := h
section
variable {K : PySem.W.Frag} {σ : L2.St} {H1 : Hp} {D a b : Addr} {vs : List Nat} {j1 j2 : Nat} {xs ys : List V} {te : TE} {Qd : Hp → Prop}
theorem lc_zipS (bs : List Bool) (hl : xs.length = ys.length) (hlen : bs.length = xs.length) (hD : H1 D = Option.none) (hx : SqT K H1 a xs) (hy : SqT K H1 b ys) (hw : ∀ x y, wipe (((wipe σ vs).set j1 (some x)).set j2 (some y)) vs = wipe σ vs) (hz : xs.length ≤ 1000)
    (he : ∀ (i : Nat) (x y : V) (bb : Bool) (H' : Hp) (Q' : VK), xs[i]? = some x → ys[i]? = some y → bs[i]? = some bb → Same H1 H' → (∀ H'', Same H' H'' → Q' (.bl bb) H'') → te (((wipe σ vs).set j1 (some x)).set j2 (some y)) H' Q')
    (hd : ∀ H', Same H1 H' → H' D = some (.lst (bs.map V.bl)) → Qd H') :
    ∃ W : Nat → Nat → Hp → Prop, (∃ m, W 0 m (upd H1 D (.lst []))) ∧ ∀ i m H, W i m H →
      ((RZ.ItzT K a b).stop i H ∧ Qd H) ∨ ((RZ.ItzT K a b).go i H ∧ ∃ Nx : Hp → Prop, (∀ H', Nx H' → ∃ m', m' < m ∧ W (i + 1) m' H') ∧ ∀ x H', (RZ.ItzT K a b).yld i H x H' → gTup K 2 (gCons (gName j1) (gCons (gName j2) gNil)) x (wipe σ vs) H' fun σ2 H2 => wipe σ2 vs = wipe σ vs ∧ tYes σ2 H2 fun b H3 =>
        if b = true then te σ2 H3 fun y H4 => ∃ acc, H4 D = some (.lst acc) ∧ acc.length < sizeLine ∧ Nx (upd H4 D (.lst (acc ++ [y]))) else Nx H3) := by
  refine ⟨fun i m H => m = xs.length - i ∧ i ≤ xs.length ∧ Same H1 H ∧ H D = some (.lst ((bs.map V.bl).take i)), ⟨xs.length, by simp, Nat.zero_le _, same_new hD, upd_same⟩, ?_⟩
  rintro i m H ⟨rfl, hi, sm, hDl⟩
  have hxa := SqT_same sm hx
  have hyb := SqT_same sm hy
  by_cases hlt : i < xs.length
  · have hix : xs[i]? = some xs[i] := List.getElem?_eq_getElem hlt
    have hiy : ys[i]? = some (ys[i]'(by omega)) := List.getElem?_eq_getElem (by omega)
    have hib : bs[i]? = some (bs[i]'(by omega)) := List.getElem?_eq_getElem (by omega)
    refine .inr ⟨⟨xs, ys, _, _, hxa, hyb, hix, hiy⟩, fun H' => i + 1 ≤ xs.length ∧ Same H1 H' ∧ H' D = some (.lst ((bs.map V.bl).take (i + 1))), fun H' p' => ⟨xs.length - (i + 1), by omega, rfl, p'⟩, ?_⟩
    rintro x H' ⟨T, x0, y0, rfl, hT, rfl, f1, f2⟩
    have e1 := f1 _ hxa
    have e2 := f2 _ hyb
    have s2 := same_new (o := .tup [x0, y0]) hT
    refine ⟨T, _, rfl, SqT.of upd_same, rfl, _, _, rfl, _, _, rfl, rfl, hw _ _, yesIte ?_⟩
    refine he i x0 y0 _ _ _ e1 e2 hib (sm.trans s2) fun H'' s3 => ⟨_, s3 _ _ (s2 _ _ hDl), ?_, by omega, ?_, ?_⟩
    · rw [List.length_take]; exact small1000 (by omega)
    · intro y o hy'
      rw [upd_ne (ne_of_none hy' hD)]
      exact s3 _ _ (s2 _ _ (sm _ _ hy'))
    · rw [upd_same, List.take_add_one, List.getElem?_map, hib]; rfl
  · have e : i = xs.length := by omega
    refine .inl ⟨⟨xs, ys, hxa, hyb, .inl (by omega)⟩, hd H sm ?_⟩
    rw [hDl, e, List.take_of_length_le (by rw [List.length_map]; omega)]
end
def spIsRec (K : PySem.W.Frag) : Sp := fun vs H Q _ => ∃ x d, vs = [x] ∧ Dp K H x d ∧ ∀ H', Same H H' → Q (.bl (recD d)) H'
/-- the slice of the head, of what is behind it -/
theorem cut_head {x1 x2 x3 x4 x5 : V} {r : List V} : cutV (x1 :: x2 :: x3 :: x4 :: x5 :: r) Option.none (some 5) = [x1, x2, x3, x4, x5] := by
  unfold cutV
  rw [show HT.sIx (x1 :: x2 :: x3 :: x4 :: x5 :: r).length 0 none = 0 from HT.sIx_none _ _, show (some (5 : Int)) = some ((5 : Nat) : Int) from rfl, HT.sIx_nat]
  rw [Nat.min_eq_left (by simp only [List.length_cons]; omega)]
  rfl
theorem cut_tail {x1 x2 x3 x4 x5 : V} {r : List V} : cutV (x1 :: x2 :: x3 :: x4 :: x5 :: r) (some 5) Option.none = r := by
  unfold cutV
  rw [show HT.sIx (x1 :: x2 :: x3 :: x4 :: x5 :: r).length (x1 :: x2 :: x3 :: x4 :: x5 :: r).length none = (x1 :: x2 :: x3 :: x4 :: x5 :: r).length from HT.sIx_none _ _, show (some (5 : Int)) = some ((5 : Nat) : Int) from rfl, HT.sIx_nat]
  rw [Nat.min_eq_left (by simp only [List.length_cons]; omega)]
  show (r.take _) = r
  exact List.take_of_length_le (by simp only [List.length_cons]; omega)
section
variable {P : Program} {wrl : World} {K : PySem.W.Frag} {mg : Str → Option Value} {base : Heap} {f fW fA fB fT fK fC fF fN CN CS aK aF : Addr} {fd fdW fdA fdB fdT fdK fdC fdF fdN : FuncData}
theorem scCount : FnScope ["kind"] ["kind"] (defScope sCount) := ⟨rfl, rfl, rfl, by decide +kernel, rfl, by decide +kernel, by decide +kernel⟩
theorem ok_count (F : Fun K "field_count" "field_count" sCount f fd) (T : NV K mg CN CS) (R : RX K wrl mg aK aF) (hlen : mg "len" = none) (GK : Def P wrl K mg base CX0 "_is_kind" 1 ["value"] (spKindQ K) fK fdK) :
    FnOk P wrl K mg base (L2.CX P wrl) 2 f fd ["kind"] spCount := by
  refine F.okX scCount (fun vs H Q E h => ?_) (fun cdv A outer s H vs Q E hr h => ?_)
  · obtain ⟨p, _, rfl, _⟩ := h
    rfl
  · obtain ⟨p, hp, rfl, q⟩ := h
    refine ⟨_, pss_cons (ps_if (pt_not (pt_val (pe_call GK.ok hr (by rfl) GK.mg GK.kp GK.bd .nil pass0 (pa_cons (pv 0) pa_nil)))) (pss_one (ps_notValid T rfl (takes_of rfl rfl rfl rfl) (by rfl))) pss_nil)
      (pss_one (ps_ret (pe_callB call_len_seq (by rfl) hlen PySem.boot_len (pa_cons (pe_ix ix_kdict (pe_glob (v := .ref aF) (by rfl) R.gF rfl) (pv 0) (fun _ _ => rfl)) pa_nil)))), ?_⟩
    have hk : strInD kindsL (.str p.1) = true := by
      have : ∀ p ∈ fieldT, strIn p.1 kindsL = true := by decide +kernel
      exact this p hp
    obtain ⟨a, ka, sa⟩ := R.fT p hp
    refine ⟨_, rfl, _, .str p.1, rfl, .str _, _, rfl, ?_⟩
    rw [hk]
    refine iteF ⟨_, rfl, aF, p.1, .ref a, rfl, rfl, ka, a, _, rfl, .inr (sa H), ?_⟩
    rw [List.length_map]
    exact q
end
end Sr

set_option Elab.async false
set_option linter.all false
set_option maxRecDepth 100000
set_option maxHeartbeats 4000000
namespace Sr
open Sg
open PySem PySem.Spec PyProof.Rows L2
theorem zip_bs {ns : List Str} {fs : List PyData} {o : Int} : ((ns.zip fs).map fun p => fieldD p.1 p.2 o).all id = fieldsD ns fs o := by
  unfold fieldsD
  rw [List.all_map]; rfl
theorem dpAll_get {K : PySem.W.Frag} {H : Hp} : ∀ {xs : List V} {ds : List PyData} {i : Nat} {x : V}, DpAll K H xs ds → xs[i]? = some x → ∃ d, ds[i]? = some d ∧ Dp K H x d
  | _, _, i, x, .nil, h => by simp at h
  | _, _, 0, x, .cons a b, h => ⟨_, rfl, by simp at h; subst h; exact a⟩
  | _, _, i + 1, x, .cons a b, h => by
    obtain ⟨d, e1, e2⟩ := dpAll_get b (i := i) (by simpa using h)
    exact ⟨d, by simpa using e1, e2⟩
theorem dpAll_5 {K : PySem.W.Frag} {H : Hp} {xs : List V} {ds : List PyData} (h : DpAll K H xs ds) (h5 : ¬ ds.length < 5) : ∃ x1 x2 x3 x4 x5 ys d1 d2 d3 d4 d5 fs, xs = x1 :: x2 :: x3 :: x4 :: x5 :: ys ∧ ds = d1 :: d2 :: d3 :: d4 :: d5 :: fs ∧ Dp K H x1 d1 ∧ Dp K H x2 d2 ∧ Dp K H x3 d3 ∧ Dp K H x4 d4 ∧ Dp K H x5 d5 ∧ DpAll K H ys fs := by
  match ds, h5 with
  | [], h => exact absurd (show (0 : Nat) < 5 by decide) h
  | [_], h => exact absurd (show (1 : Nat) < 5 by decide) h
  | [_, _], h => exact absurd (show (2 : Nat) < 5 by decide) h
  | [_, _, _], h => exact absurd (show (3 : Nat) < 5 by decide) h
  | [_, _, _, _], h => exact absurd (show (4 : Nat) < 5 by decide) h
  | d1 :: d2 :: d3 :: d4 :: d5 :: fs, _ =>
    obtain ⟨x1, r1, rfl, a1, b1⟩ := dpAll_cons h
    obtain ⟨x2, r2, rfl, a2, b2⟩ := dpAll_cons b1
    obtain ⟨x3, r3, rfl, a3, b3⟩ := dpAll_cons b2
    obtain ⟨x4, r4, rfl, a4, b4⟩ := dpAll_cons b3
    obtain ⟨x5, r5, rfl, a5, b5⟩ := dpAll_cons b4
    exact ⟨_, _, _, _, _, _, _, _, _, _, _, _, rfl, rfl, a1, a2, a3, a4, a5, b5⟩
theorem rec_eq {k : Str} {ns : List Str} {o : Int} {d3 d4 d5 : PyData} {fs : List PyData} (h : fieldT.lookup k = some ns) :
    recD (.tuple (.int o :: .str k :: d3 :: d4 :: d5 :: fs)) = (decide (fs.length = ns.length) && (decide (1 ≤ o) && betwD 0 3 d3 && (atLeastD 1 d4 && counterD k d5 && fieldsD ns fs o))) := by
  show (match fieldT.lookup k with
    | some ns => decide (fs.length = ns.length) && (decide (1 ≤ o) && betwD 0 3 d3 && (atLeastD 1 d4 && counterD k d5 && fieldsD ns fs o))
    | none => false) = _
  rw [h]
theorem in_kinds {k : Str} {ns : List Str} (h : fieldT.lookup k = some ns) : strIn k kindsL = true := by
  have : ∀ p ∈ fieldT, strIn p.1 kindsL = true := by decide +kernel
  exact this _ (PySem.mem_of_lookup h)
theorem rec_nokind {d1 d2 d3 d4 d5 : PyData} {fs : List PyData} (h : strInD kindsL d2 = false) : recD (.tuple (d1 :: d2 :: d3 :: d4 :: d5 :: fs)) = false := by
  cases d2 with
  | str k =>
    cases d1 with
    | int o =>
      show (match fieldT.lookup k with
        | some ns => decide (fs.length = ns.length) && (decide (1 ≤ o) && betwD 0 3 d3 && (atLeastD 1 d4 && counterD k d5 && fieldsD ns fs o))
        | none => false) = false
      cases e : fieldT.lookup k with
      | none => rfl
      | some ns =>
        have := in_kinds e
        rw [show strInD kindsL (.str k) = strIn k kindsL from rfl, this] at h
        cases h
    | _ => rfl
  | _ => cases d1 <;> rfl
theorem rec_noint {d1 d2 d3 d4 d5 : PyData} {fs : List PyData} (h : atLeastD 1 d1 = false) : recD (.tuple (d1 :: d2 :: d3 :: d4 :: d5 :: fs)) = false := by
  cases d1 with
  | int o =>
    cases d2 with
    | str k =>
      show (match fieldT.lookup k with
        | some ns => decide (fs.length = ns.length) && (decide (1 ≤ o) && betwD 0 3 d3 && (atLeastD 1 d4 && counterD k d5 && fieldsD ns fs o))
        | none => false) = false
      have h' : decide ((1 : Int) ≤ o) = false := h
      cases e : fieldT.lookup k with
      | none => rfl
      | some ns => simp only [h', Bool.false_and, Bool.and_false]
    | _ => rfl
  | _ => cases d2 <;> rfl
theorem rec_short {ds : List PyData} (h : ds.length < 5) : recD (.tuple ds) = false := by
  match ds, h with
  | [], _ => rfl
  | [d], _ => cases d <;> rfl
  | [d, e], _ => cases d <;> cases e <;> rfl
  | [d, e, _], _ => cases d <;> cases e <;> rfl
  | [d, e, _, _], _ => cases d <;> cases e <;> rfl
theorem dp_str {K : PySem.W.Frag} {H : Hp} {x : V} {d : PyData} {ns : List Str} (h : Dp K H x d) (w : strInD ns d = true) : ∃ k, x = .str k ∧ d = .str k ∧ strIn k ns = true := by
  cases h <;> first | exact ⟨_, rfl, rfl, w⟩ | cases w
section
variable {P : Program} {wrl : World} {K : PySem.W.Frag} {mg : Str → Option Value} {base : Heap} {f fW fA fB fT fK fC fF fN CN CS aK aF : Addr} {fd fdW fdA fdB fdT fdK fdC fdF fdN : FuncData}
abbrev RN : List Str := ["value", "order", "kind", "host", "session", "counter", "name", "field"]
theorem scIsRec : FnScope RN ["value"] (defScope sIsRec) := ⟨rfl, rfl, rfl, by decide +kernel, rfl, by decide +kernel, by decide +kernel⟩
theorem ok_isRec (F : Fun K "is_record" "is_record" sIsRec f fd) (B : Bds mg fW) (R : RX K wrl mg aK aF) (hlen : mg "len" = none) (hall : mg "all" = none) (hzip : mg "zip" = none)
    (GA : Def P wrl K mg base CX0 "is_at_least" 2 ["value", "low"] (spAtLeast K) fA fdA) (GB : Def P wrl K mg base CX0 "is_between" 2 ["value", "low", "high"] (spBetween K) fB fdB)
    (GK : Def P wrl K mg base CX0 "_is_kind" 1 ["value"] (spKindQ K) fK fdK) (GC : Def P wrl K mg base CX0 "_is_counter" 3 ["value", "kind"] (spCounter K) fC fdC)
    (GF : Def P wrl K mg base CX0 "_is_field" 4 ["name", "value", "order"] (spField K) fF fdF) (GN : Def P wrl K mg base (L2.CX P wrl) "field_count" 2 ["kind"] spCount fN fdN) :
    FnOk P wrl K mg base CX0 5 f fd ["value"] (spIsRec K) := by
  obtain ⟨t0, hHd⟩ := R.gHd
  obtain ⟨t1, hHo⟩ := R.gHo
  refine F.ok scIsRec (fun vs H Q E h => ?_) (fun cdv A outer s H vs Q E hr h => ?_)
  · obtain ⟨x, d, rfl, _⟩ := h
    rfl
  · obtain ⟨x, d, rfl, hd, q⟩ := h
    have hr3 : Room 3 _ := hr.mono (by decide)
    have hr2 : Room 2 _ := hr.mono (by decide)
    have hr1 : Room 1 _ := hr.mono (by decide)
    obtain ⟨t, ty, _, _, _, h4, _⟩ := dp_ty hd
    refine ⟨_, pss_cons (ps_if (PW.pt (pw_or (pt_not (pt_val (pe_callB call_isi (by rfl) B.isi boot_isi (pa_cons (pv 0) (pa_cons (pe_bltn (v := .ty "tuple") (by rfl) B.tup boot_tuple rfl) pa_nil))))) (pw_or1 (pt_cmpR op_lt (pe_callB call_len_seq (by rfl) hlen PySem.boot_len (pa_cons (pv 0) pa_nil)) (pe_glob (v := .int 5) (by rfl) hHd ⟨_, rfl⟩) (nomark _))))) (pss_one (ps_ret pe_bl)) pss_nil)
      (pss_cons (ps_asg (pe_slice sl_any (pv 0) po_none (po_some (pe_glob (v := .int 5) (by rfl) hHd ⟨_, rfl⟩))) (pg_tup (by rfl) (pgs_cons (pg_name (i := 1) scIsRec.nd rfl (Or.inr rfl)) (pgs_cons (pg_name (i := 2) scIsRec.nd rfl (Or.inl rfl)) (pgs_cons (pg_name (i := 3) scIsRec.nd rfl (Or.inl rfl)) (pgs_cons (pg_name (i := 4) scIsRec.nd rfl (Or.inl rfl)) (pgs_cons (pg_name (i := 5) scIsRec.nd rfl (Or.inl rfl)) L2.pgs_nil)))))))
      (pss_cons (ps_if (PW.pt (pw_or (pt_not (pt_val (pe_call GK.ok hr1 (by rfl) GK.mg GK.kp GK.bd .nil pass0 (pa_cons (pv 2) pa_nil)))) (pw_or1 (pt_cmpR op_ne (pe_callB call_len_seq (by rfl) hlen PySem.boot_len (pa_cons (pv 0) pa_nil)) (pe_op op_add (pe_glob (v := .int 5) (by rfl) hHd ⟨_, rfl⟩) (pe_call GN.ok hr2 (by rfl) GN.mg GN.kp GN.bd .nil passL (pa_cons (pv 2) pa_nil))) (nomark _))))) (pss_one (ps_ret pe_bl)) pss_nil)
      (pss_cons (ps_if (PW.pt (pw_or (pt_not (pt_val (pe_call GA.ok hr2 (by rfl) GA.mg GA.kp GA.bd .nil pass0 (pa_cons (pv 1) (pa_cons pe_int pa_nil))))) (pw_or1 (pt_not (pt_val (pe_call GB.ok hr2 (by rfl) GB.mg GB.kp GB.bd .nil pass0 (pa_cons (pv 3) (pa_cons pe_int (pa_cons (pe_op op_sub (pe_glob (v := .int 4) (by rfl) hHo ⟨_, rfl⟩) pe_int) pa_nil))))))))) (pss_one (ps_ret pe_bl)) pss_nil)
      (pss_cons (ps_if (PW.pt (pw_or (pt_not (pt_val (pe_call GA.ok hr2 (by rfl) GA.mg GA.kp GA.bd .nil pass0 (pa_cons (pv 4) (pa_cons pe_int pa_nil))))) (pw_or1 (pt_not (pt_val (pe_call GC.ok hr3 (by rfl) GC.mg GC.kp GC.bd .nil pass0 (pa_cons (pv 5) (pa_cons (pv 2) pa_nil)))))))) (pss_one (ps_ret pe_bl)) pss_nil)
      (pss_one (ps_ret (pe_callB (cr_all rfl) (by rfl) hall (by decide +kernel) (pa_cons (pe_lc (own := [("name", 6), ("field", 7)]) (g := gTup K 2 (gCons (gName 6) (gCons (gName 7) gNil))) (tt := tYes) (te := tCall (spField K) [] E0 (tCons (tVar 6) (tCons (tVar 7) (tCons (tVar 1) tNil)))) (by rfl) scIsRec.nd
          (RZ.pi_zipA (by rfl) hzip (pa_cons (pe_ix ix_kdict (pe_glob (v := .ref aF) (by rfl) R.gF rfl) (pv 2) (fun _ _ => rfl)) (pa_cons (pe_slice sl_any (pv 0) (po_some (pe_glob (v := .int 5) (by rfl) hHd ⟨_, rfl⟩)) po_none) pa_nil)))
          (blkOk_by (own := [("name", 6), ("field", 7)]) (N := RN) (sc := defScope sIsRec) (by decide +kernel)) (fun _ _ _ _ _ => pg_tup (by rfl) (pgs_cons (pg_name (i := 6) scIsRec.nd rfl (Or.inl rfl)) (pgs_cons (pg_name (i := 7) scIsRec.nd rfl (Or.inl rfl)) L2.pgs_nil))) (fun _ _ _ _ _ => pts_nil)
          (fun _ _ _ _ _ => by exact (pe_call GF.ok hr (by rfl) GF.mg GF.kp GF.bd .nil pass0 (pa_cons (pv 6) (pa_cons (pv 7) (pa_cons (pv 1) pa_nil)))))) pa_nil)))))))), ?_⟩
    refine ⟨_, rfl, x, _, t, _, _, rfl, .ty "tuple", ty, h4, _, rfl, ?_⟩
    have q0 := q H (Same.refl H)
    cases ht : tupB d with
    | false =>
      have e : recD d = false := by cases d <;> first | rfl | cases ht
      rw [e] at q0
      exact iteT (iteT q0)
    | true =>
      refine iteF ?_
      obtain ⟨a, xs, ds, rfl, rfl, hs, ha⟩ := dp_tup hd ht
      have hl := dpAll_len ha
      refine ⟨_, rfl, a, xs, rfl, .inr hs, _, _, rfl, rfl, _, rfl, ?_⟩
      by_cases h5 : ds.length < 5
      · rw [rec_short h5] at q0
        rw [decide_eq_true (show (xs.length : Int) < 5 by omega)]
        exact iteT q0
      rw [decide_eq_false (show ¬ (xs.length : Int) < 5 by omega)]
      refine iteF ?_
      obtain ⟨x1, x2, x3, x4, x5, ys, d1, d2, d3, d4, d5, fs, rfl, rfl, e1, e2, e3, e4, e5, e6⟩ := dpAll_5 ha h5
      refine ⟨_, rfl, 5, rfl, a, _, rfl, hs, fun p H1 s1 hp => ?_⟩
      rw [cut_head] at hp
      refine ⟨p, _, rfl, hp, rfl, _, _, rfl, _, _, rfl, _, _, rfl, _, _, rfl, _, _, rfl, rfl, ?_⟩
      have hs1 := SqT_same s1 hs
      have q1 := q H1 s1
      refine ⟨_, rfl, x2, d2, rfl, dp_same s1 _ _ e2, _, rfl, ?_⟩
      cases hk : strInD kindsL d2 with
      | false =>
        rw [rec_nokind hk] at q1
        exact iteT (iteT q1)
      | true =>
        refine iteF ?_
        obtain ⟨k, rfl, rfl, hk'⟩ := dp_str e2 hk
        obtain ⟨ns, hmem, hlook⟩ := kind_in hk'
        obtain ⟨a', ka, sa⟩ := R.fT _ hmem
        have hl6 := dpAll_len e6
        refine ⟨_, rfl, a, _, rfl, .inr hs1, _, rfl, (k, ns), hmem, rfl, _, _, rfl, rfl, rfl, _, rfl, ?_⟩
        by_cases hfl : fs.length = ns.length
        · rw [decide_eq_true (show V.int (((x1 :: V.str k :: x3 :: x4 :: x5 :: ys).length : Nat) : Int) = V.int (5 + (ns.length : Int)) by
            simp only [List.length_cons]; congr 1; omega)]
          refine iteF ?_
          refine ⟨_, rfl, x1, d1, 1, rfl, dp_same s1 _ _ e1, _, rfl, ?_⟩
          cases b1 : atLeastD 1 d1 with
          | false =>
            rw [rec_noint b1] at q1
            exact iteT (iteT q1)
          | true =>
            obtain ⟨o, rfl, rfl⟩ : ∃ o, x1 = .int o ∧ d1 = .int o := by
              cases e1 <;> first | exact ⟨_, rfl, rfl⟩ | cases b1
            rw [rec_eq hlook, decide_eq_true hfl, show decide ((1 : Int) ≤ o) = true from b1] at q q1
            refine iteF ⟨_, rfl, _, _, rfl, rfl, x3, d3, 0, 3, rfl, dp_same s1 _ _ e3, _, rfl, ?_⟩
            have q2 : Q (.bl (betwD 0 3 d3 && (atLeastD 1 d4 && counterD k d5 && fieldsD ns fs o))) H1 := q1
            cases b3 : betwD 0 3 d3 with
            | false =>
              rw [b3] at q2
              exact iteT q2
            | true =>
              rw [b3] at q2 q
              refine iteF ⟨_, rfl, x4, d4, 1, rfl, dp_same s1 _ _ e4, _, rfl, ?_⟩
              cases b4 : atLeastD 1 d4 with
              | false =>
                rw [b4] at q2
                exact iteT (iteT q2)
              | true =>
                rw [b4] at q2 q
                refine iteF ⟨_, rfl, _, rfl, x5, d5, k, rfl, dp_same s1 _ _ e5, _, rfl, ?_⟩
                cases b5 : counterD k d5 with
                | false =>
                  rw [b5] at q2
                  exact iteT q2
                | true =>
                  rw [b5] at q
                  refine iteF ?_
                  have q3 : ∀ H', Same H H' → Q (.bl (fieldsD ns fs o)) H' := q
                  refine ⟨_, rfl, aF, k, .ref a', rfl, rfl, ka, _, rfl, 5, rfl, a, _, rfl, hs1, fun p2 H2 s2 hp2 => ?_⟩
                  rw [cut_tail] at hp2
                  refine ⟨a', p2, ns.map V.str, ys, rfl, .inr ⟨sa H2, hp2, fun D hD => ?_⟩⟩
                  have hns : ns.length ≤ 1000 := by
                    have : ∀ p ∈ fieldT, p.2.length ≤ 1000 := by decide +kernel
                    exact this _ hmem
                  refine lc_zipS ((ns.zip fs).map fun p => fieldD p.1 p.2 o) (by rw [List.length_map]; show ns.length = ys.length; omega) (by rw [List.length_map, List.length_map, List.length_zip]; show min ns.length fs.length = ns.length; omega) hD (sa H2) hp2 (fun _ _ => rfl) (by rw [List.length_map]; exact hns) (fun i x y bb H' Q' hx hy hb s3 k3 => ?_) fun H3 s3 hDl => ?_
                  · obtain ⟨n, hn, rfl⟩ := map_get hx
                    have e6' := dpAll_same ((s1.trans s2).trans s3) _ _ e6
                    obtain ⟨dd, hdd, hdp⟩ := dpAll_get e6' hy
                    rw [List.getElem?_map, List.getElem?_zip_eq_some.mpr (by exact ⟨hn, hdd⟩ : ns[i]? = some (n, dd).1 ∧ fs[i]? = some (n, dd).2)] at hb
                    have hb' : fieldD n dd o = bb := by simpa using hb
                    refine ⟨_, rfl, _, rfl, _, rfl, n, y, dd, o, rfl, hdp, fun H'' s4 => ?_⟩
                    rw [hb']
                    exact k3 H'' s4
                  · refine ⟨D, _, rfl, SqL.of hDl, ?_⟩
                    rw [zip_bs]
                    exact q3 H3 ((s1.trans s2).trans s3)
        · rw [decide_eq_false (show ¬ V.int (((x1 :: V.str k :: x3 :: x4 :: x5 :: ys).length : Nat) : Int) = V.int (5 + (ns.length : Int)) by
            intro z; injection z with z; simp only [List.length_cons] at z; omega)]
          have e : recD (.tuple (d1 :: .str k :: d3 :: d4 :: d5 :: fs)) = false := by
            cases d1 with
            | int o => rw [rec_eq hlook, decide_eq_false hfl]; rfl
            | _ => rfl
          rw [e] at q1
          exact iteT q1
end
end Sr

set_option Elab.async false
set_option linter.all false
set_option maxRecDepth 100000
set_option maxHeartbeats 4000000
namespace Sg
open PySem PySem.Spec PyProof.Rows L2
structure Def (P : Program) (wd : World) (K : PySem.W.Frag) (mg : Str → Option Value) (base : Heap) (CX : CXT) (x : Str) (k : Nat) (ps : List Str) (sp : Sp) (f : Addr) (fd : FuncData) : Prop where
  ok : FnOk P wd K mg base CX k f fd ps sp
  bd : Binds K fd ps []
  kp : PySem.W.keepIn K (.ref f) = true
  mg : mg x = some (.ref f)
structure MDef (P : Program) (wd : World) (K : PySem.W.Frag) (mg : Str → Option Value) (base : Heap) (CX : CXT) (C : Addr) (x : Str) (k : Nat) (ps : List Str) (sp : Sp) (f : Addr) (fd : FuncData) : Prop where
  ok : FnOk P wd K mg base CX k f fd ps sp
  bd : Binds K fd ps []
  me : Meth K C x f
/-! ### a filtered range -/
theorem lc_rngF {σ : L2.St} {H1 : Hp} {D : Addr} {vs : List Nat} {j n : Nat} {tt : TT} {te : TE} {Qd : Hp → Prop} (f : Nat → Bool) (hD : H1 D = Option.none) (hw : ∀ x, wipe ((wipe σ vs).set j (some x)) vs = wipe σ vs) (hz : n ≤ 1000)
    (he : ∀ (i : Nat) (H' : Hp) (Q' : Bool → Hp → Prop), i < n → Same H1 H' → (∀ H'', Same H' H'' → Q' (f i) H'') → tt ((wipe σ vs).set j (some (.int (0 + (i : Int))))) H' Q')
    (hv : ∀ (i : Nat) (H' : Hp) (Q' : VK), i < n → Q' (.int (0 + (i : Int))) H' → te ((wipe σ vs).set j (some (.int (0 + (i : Int))))) H' Q')
    (hd : ∀ H', Same H1 H' → H' D = some (.lst (((List.range n).filter f).map fun i : Nat => V.int (i : Int))) → Qd H') :
    ∃ W : Nat → Nat → Hp → Prop, (∃ m, W 0 m (upd H1 D (.lst []))) ∧ ∀ i m H, W i m H →
      ((Itr 0 n).stop i H ∧ Qd H) ∨ ((Itr 0 n).go i H ∧ ∃ Nx : Hp → Prop, (∀ H', Nx H' → ∃ m', m' < m ∧ W (i + 1) m' H') ∧ ∀ x H', (Itr 0 n).yld i H x H' → gName j x (wipe σ vs) H' fun σ2 H2 => wipe σ2 vs = wipe σ vs ∧ tt σ2 H2 fun b H3 =>
        if b = true then te σ2 H3 fun y H4 => ∃ acc, H4 D = some (.lst acc) ∧ acc.length < sizeLine ∧ Nx (upd H4 D (.lst (acc ++ [y]))) else Nx H3) := by
  refine lc_range (lo := 0) (n := n) (fun i H' => i ≤ n ∧ Same H1 H' ∧ H' D = some (.lst (((List.range i).filter f).map fun i : Nat => V.int (i : Int)))) ⟨Nat.zero_le _, same_new hD, by rw [List.range_zero]; exact upd_same⟩ ?_ ?_
  · rintro i H' hi ⟨_, sm, hDl⟩
    refine ⟨hw _, he i H' _ hi sm fun H'' s2 => ?_⟩
    have hD2 := s2 _ _ hDl
    have hlen : (((List.range i).filter f).map fun i : Nat => V.int (i : Int)).length ≤ i := by
      rw [List.length_map]
      exact Nat.le_trans (List.length_filter_le _ _) (by rw [List.length_range]; exact Nat.le_refl _)
    have e0 : (0 : Int) + (i : Int) = i := by omega
    cases hf : f i with
    | true =>
      rw [if_pos rfl]
      refine hv i H'' _ hi ⟨_, hD2, small1000 (by omega), by omega, ?_, ?_⟩
      · intro y o hy'
        rw [upd_ne (ne_of_none hy' hD)]
        exact s2 _ _ (sm _ _ hy')
      · rw [upd_same, List.range_succ, List.filter_append, List.map_append, e0]
        simp [hf]
    | false =>
      rw [if_neg Bool.false_ne_true]
      refine ⟨by omega, sm.trans s2, ?_⟩
      rw [hD2, List.range_succ, List.filter_append]
      simp [hf]
  · rintro H' ⟨_, sm, hDl⟩
    exact hd H' sm hDl
/-! ### the log -/
def lf (fl c : Addr) : List (Str × V) := [("flash", .ref fl), ("_contents", .ref c)]
theorem lf_flash {fl c : Addr} : (lf fl c).lookup ("flash" : Str) = some (.ref fl) := lk_here
theorem lf_contents {fl c : Addr} : (lf fl c).lookup ("_contents" : Str) = some (.ref c) := (lk_past (by decide +kernel)).trans lk_here
theorem lf_no {fl c : Addr} {m : Str} (h : [("flash" : Str), "_contents"].all (fun g => !(m == g)) = true) : (lf fl c).lookup m = Option.none := by
  simp only [List.all_cons, List.all_nil, Bool.and_true, Bool.and_eq_true, Bool.not_eq_true'] at h
  exact (lk_past h.1).trans ((lk_past h.2).trans rfl)
structure LogAt (C CL : Addr) (H : Hp) (lg fl c2 : Addr) (as2 : List Addr) (ps : List (List V)) : Prop where
  ob : ∃ dx, H lg = some (.ins CL dx (lf fl c2))
  gr : Grid H c2 as2 ps
  pg : Pgs H ps
  fb : Blk C H fl ps.length
  le : ps.length ≤ 100
theorem Blk.same {C : Addr} {H H' : Hp} {p : Addr} {n : Int} (h : Blk C H p n) (s : Same H H') : Blk C H' p n := by
  obtain ⟨dx, fs, a, b⟩ := h
  exact ⟨dx, fs, s _ _ a, b⟩
theorem LogAt.same {C CL : Addr} {H H' : Hp} {lg fl c2 : Addr} {as2 : List Addr} {ps : List (List V)} (h : LogAt C CL H lg fl c2 as2 ps) (s : Same H H') : LogAt C CL H' lg fl c2 as2 ps := by
  obtain ⟨⟨dx, a⟩, b, c, d, e⟩ := h
  exact ⟨⟨dx, s _ _ a⟩, b.same s, c.mono (same_tups s), d.same s, e⟩
structure LT (K : PySem.W.Frag) (mg : Str → Option Value) (CL : Addr) : Prop where
  cl : Cls K CL
  nf : NoAttr K CL "flash"
  nc : NoAttr K CL "_contents"
  s_sum : mg "sum" = Option.none
  s_min : mg "min" = Option.none
  s_sorted : mg "sorted" = Option.none
  gL : mg "Log" = some (.ref CL)
/-- the errors of the log -/
structure LE (K : PySem.W.Frag) (mg : Str → Option Value) (CB CR CS : Addr) : Prop where
  gB : mg "BadFlash" = some (.ref CB)
  xB : PySem.W.excIn K CB [.type "ValueError", .type "Exception", .type "BaseException", .type "object"] "ValueError.__new__" = true
  kB : PySem.W.keepIn K (.ref CB) = true
  bB : PySem.W.subIn K (.ref CB) (.type "BaseException") = some true
  tB : PySem.W.typeIn K (.ref CB) = some (.type "type")
  eB : PySem.W.exmOne K (.ref CB) (.ref CS) = some true
  gR : mg "NoRoom" = some (.ref CR)
  xR : PySem.W.excIn K CR [.type "ValueError", .type "Exception", .type "BaseException", .type "object"] "ValueError.__new__" = true
  kR : PySem.W.keepIn K (.ref CR) = true
  bR : PySem.W.subIn K (.ref CR) (.type "BaseException") = some true
  tR : PySem.W.typeIn K (.ref CR) = some (.type "type")
  eR : PySem.W.exmOne K (.ref CR) (.ref CS) = some true
def stS (n : Nat) : Str := if n = 0 then "free" else if n = 8 then "closed" else "open"
def stB (ps : List (List V)) (s : Str) (b : Nat) : Bool := decide (stS (ps.getD b []).length = s)
def blks (ps : List (List V)) (s : Str) : List Nat := (List.range ps.length).filter (stB ps s)
def spPages (C CL CN : Addr) : Sp := fun vs H Q E => ∃ lg fl c2 as2 ps b, vs = [.ref lg, .int b] ∧ LogAt C CL H lg fl c2 as2 ps ∧
  (∀ (j : Nat) xs, b = (j : Int) → ps[j]? = some xs → ∀ l H', H l = Option.none → Same H H' → H' l = some (.lst (row xs)) → Q (.ref l) H') ∧ (¬ (0 ≤ b ∧ b < (ps.length : Int)) → E (.ref CN) Option.none H)
def spState (C CL CN : Addr) : Sp := fun vs H Q E => ∃ lg fl c2 as2 ps b, vs = [.ref lg, .int b] ∧ LogAt C CL H lg fl c2 as2 ps ∧
  (∀ (j : Nat) xs, b = (j : Int) → ps[j]? = some xs → ∀ H', Same H H' → Q (.str (stS xs.length)) H') ∧ (¬ (0 ≤ b ∧ b < (ps.length : Int)) → E (.ref CN) Option.none H)
def IntsAt (H : Hp) (l : Addr) (ns : List Nat) : Prop := H l = some (.lst (ns.map fun i : Nat => V.int (i : Int)))
def spBlks (C CL : Addr) : Sp := fun vs H Q _ => ∃ lg fl c2 as2 ps s, vs = [.ref lg, .str s] ∧ LogAt C CL H lg fl c2 as2 ps ∧ ∀ l H', H l = Option.none → Same H H' → IntsAt H' l (blks ps s) → Q (.ref l) H'
def spBlk1 (C CL : Addr) (s : Str) : Sp := fun vs H Q _ => ∃ lg fl c2 as2 ps, vs = [.ref lg] ∧ LogAt C CL H lg fl c2 as2 ps ∧ ∀ l H', H l = Option.none → Same H H' → IntsAt H' l (blks ps s) → Q (.ref l) H'
section
variable {P : Program} {wd : World} {K : PySem.W.Frag} {mg : Str → Option Value} {base : Heap} {f C CL CN CP CS fW fB fF fPa fSt fBl : Addr} {fd fdB fdF fdPa fdSt fdBl : FuncData}
theorem scPagesM : FnScope ["self", "block"] ["self", "block"] (defScope (cL 7)) := ⟨rfl, rfl, rfl, by decide +kernel, rfl, by decide +kernel, by decide +kernel⟩
theorem ok_pagesM (F : Fun K "pages" "Log.pages" (cL 7) f fd) (T : FT K mg C CN CP CS fW fB) (Y : LT K mg CL) (GB : Def P wd K mg base CX0 "is_between" 2 ["value", "low", "high"] (spBetween K) fB fdB) : FnOk P wd K mg base (L2.CX P wd) 3 f fd ["self", "block"] (spPages C CL CN) := by
  refine F.okX scPagesM (fun vs H Q E h => ?_) (fun cdv A outer s H vs Q E hr h => ?_)
  · obtain ⟨lg, fl, c2, as2, ps, b, rfl, _⟩ := h
    rfl
  · obtain ⟨lg, fl, c2, as2, ps, b, rfl, L, k1, k2⟩ := h
    refine ⟨_, (pss_cons (ps_if (pt_not (pt_val (pe_call GB.ok hr (by rfl) GB.mg GB.kp GB.bd .nil pass0 (pa_cons (pv 1) (pa_cons pe_int (pa_cons (pe_op op_sub (pe_fld (pe_fld (pv 0) rfl) rfl) pe_int) pa_nil))))))
      (pss_one (ps_notValid T rfl (takes_of rfl rfl rfl rfl) (by rfl))) pss_nil)
      (pss_one (ps_ret (pe_callTy call_listOf (by rfl) T.lst boot_list (pa_cons (pe_ix ix_list (pe_fld (pv 0) rfl) (pv 1) (fun _ _ => rfl)) pa_nil))))), ?_⟩
    obtain ⟨dx, hob⟩ := id L.ob
    obtain ⟨dxf, fs, hfl, hfb⟩ := id L.fb
    refine ⟨_, rfl, _, rfl, lg, CL, dx, _, _, rfl, hob, Y.cl, Y.nf, lf_flash, fl, C, dxf, _, _, rfl, hfl, T.cl, T.n1, hfb, _, _, rfl, rfl, _, _, _, rfl, .inl ⟨b, rfl, _, rfl, ?_⟩⟩
    by_cases c : 0 ≤ b ∧ b < (ps.length : Int)
    · rw [decide_eq_true c.1, decide_eq_true (show b ≤ (ps.length : Int) - 1 by omega)]
      refine iteF ?_
      obtain ⟨j, rfl⟩ : ∃ j : Nat, b = (j : Int) := ⟨b.toNat, by omega⟩
      have hvs : ps[j]? = some ps[j] := List.getElem?_eq_getElem (by omega)
      obtain ⟨a, ha, hrow⟩ := L.gr.at hvs
      exact ⟨_, rfl, lg, CL, dx, _, _, rfl, hob, Y.cl, Y.nc, lf_contents, _, rfl, c2, _, _, _, rfl, rfl, SqL.of L.gr.ls, atI_nat (get_map ha), a, _, rfl, .inl (SqL.of hrow), fun l hl => k1 j _ rfl hvs l _ hl (same_new hl) upd_same⟩
    · have e : (decide (0 ≤ b) && decide (b ≤ (ps.length : Int) - 1)) = false := by
        rw [Bool.and_eq_false_iff, decide_eq_false_iff_not, decide_eq_false_iff_not]; omega
      rw [e]
      exact iteT (k2 c)
theorem scStateM : FnScope ["self", "block", "page"] ["self", "block"] (defScope (cL 4)) := ⟨rfl, rfl, rfl, by decide +kernel, rfl, by decide +kernel, by decide +kernel⟩
theorem ok_stateM (F : Fun K "state" "Log.state" (cL 4) f fd) (T : FT K mg C CN CP CS fW fB) (Y : LT K mg CL) (GF : Def P wd K mg base CX0 "first_erased" 1 ["pages"] spFirst fF fdF) (GP : MDef P wd K mg base (L2.CX P wd) CL "pages" 3 ["self", "block"] (spPages C CL CN) fPa fdPa) : FnOk P wd K mg base (L2.CX P wd) 4 f fd ["self", "block"] (spState C CL CN) := by
  obtain ⟨tk, hpag⟩ := T.pag
  refine F.okX scStateM (fun vs H Q E h => ?_) (fun cdv A outer s H vs Q E hr h => ?_)
  · obtain ⟨lg, fl, c2, as2, ps, b, rfl, _⟩ := h
    rfl
  · obtain ⟨lg, fl, c2, as2, ps, b, rfl, L, k1, k2⟩ := h
    have hr1 : Room 1 _ := hr.mono (by decide)
    refine ⟨_, (pss_cons (ps_set (i := 2) scStateM.nd rfl (Or.inl rfl) (pe_call GF.ok hr1 (by rfl) GF.mg GF.kp GF.bd .nil pass0 (pa_cons (pe_meth (pv 0) Y.cl GP.me GP.ok hr GP.bd .nil (passX (E := E) (takes_of rfl rfl rfl rfl) (fun _ _ _ _ z => z)) (pa_cons (pv 1) pa_nil)) pa_nil)))
      (pss_cons (ps_if (pt_cmpR op_eq (pv 2) pe_int (nomark _))
      (pss_one (ps_ret pe_str)) pss_nil)
      (pss_cons (ps_if (pt_cmpR op_eq (pv 2) (pe_glob (v := .int 8) (by rfl) hpag ⟨_, rfl⟩) (nomark _))
      (pss_one (ps_ret pe_str)) pss_nil)
      (pss_one (ps_ret pe_str))))), ?_⟩
    obtain ⟨dx, hob⟩ := id L.ob
    refine ⟨_, rfl, lg, dx, _, rfl, hob, lf_no (by decide +kernel), _, rfl, lg, fl, c2, as2, ps, b, rfl, L, fun j xs e hx l H1 hl s1 hrow => ?_, fun hn => k2 hn⟩
    have pg := (L.same s1).pg xs (List.mem_of_getElem? hx)
    refine ⟨l, xs, rfl, hrow, pg, ?_⟩
    have key := k1 j xs e hx H1 s1
    have h8 := pg.1
    refine ⟨_, rfl, rfl, _, rfl, ?_⟩
    unfold stS at key
    by_cases e0 : xs.length = 0
    · rw [decide_eq_true (show V.int (xs.length : Int) = V.int 0 by rw [e0]; rfl)]
      rw [if_pos e0] at key
      exact iteT key
    · rw [decide_eq_false (show ¬ V.int (xs.length : Int) = V.int 0 from fun z => e0 (by have := V.int.inj z; omega))]
      rw [if_neg e0] at key
      refine iteF ⟨_, rfl, rfl, _, rfl, ?_⟩
      by_cases e8 : xs.length = 8
      · rw [decide_eq_true (show V.int (xs.length : Int) = V.int 8 by rw [e8]; rfl)]
        rw [if_pos e8] at key
        exact iteT key
      · rw [decide_eq_false (show ¬ V.int (xs.length : Int) = V.int 8 from fun z => e8 (by have := V.int.inj z; omega))]
        rw [if_neg e8] at key
        exact iteF key
theorem scBlksM : FnScope ["self", "state", "block"] ["self", "state"] (defScope (cL 11)) := ⟨rfl, rfl, rfl, by decide +kernel, rfl, by decide +kernel, by decide +kernel⟩
theorem ok_blksM (F : Fun K "_blocks_that_are" "Log._blocks_that_are" (cL 11) f fd) (T : FT K mg C CN CP CS fW fB) (Y : LT K mg CL) (GS : MDef P wd K mg base (L2.CX P wd) CL "state" 4 ["self", "block"] (spState C CL CN) fSt fdSt) : FnOk P wd K mg base CX0 5 f fd ["self", "state"] (spBlks C CL) := by
  refine F.ok scBlksM (fun vs H Q E h => ?_) (fun cdv A outer s H vs Q E hr h => ?_)
  · obtain ⟨lg, fl, c2, as2, ps, b, rfl, _⟩ := h
    rfl
  · obtain ⟨lg, fl, c2, as2, ps, s, rfl, L, k1⟩ := h
    refine ⟨_, (pss_one (ps_ret (pe_lc (own := [("block", 2)]) (g := gName 2) (tt := tTest (tOp rEq (tMeth CL "state" (spState C CL CN) [] E0 (tVar 0) (tCons (tVar 2) tNil)) (tVar 1))) (te := tVar 2) (by rfl) scBlksM.nd (pi_range1 (by rfl) T.bt.range (pa_cons (pe_fld (pe_fld (pv 0) rfl) rfl) pa_nil)) (blkOk_by (own := [("block", 2)]) (N := ["self", "state", "block"]) (sc := defScope sBlksM) (by decide +kernel)) (fun _ _ _ _ _ => pg_name (i := 2) scBlksM.nd rfl (Or.inl rfl)) (fun _ _ _ _ _ => pts_one (pt_cmpR op_eq (pe_meth (pv 0) Y.cl GS.me GS.ok hr GS.bd .nil passL (pa_cons (pv 2) pa_nil)) (pv 1) (nomark _))) (fun _ _ _ _ _ => by exact (pv 2))))), ?_⟩
    obtain ⟨dx, hob⟩ := id L.ob
    obtain ⟨dxf, fs, hfl, hfb⟩ := id L.fb
    have hle := L.le
    refine ⟨_, rfl, lg, CL, dx, _, _, rfl, hob, Y.cl, Y.nf, lf_flash, fl, C, dxf, _, _, rfl, hfl, T.cl, T.n1, hfb, _, rfl, by omega, by omega, fun D hD => ?_⟩
    rw [show ((ps.length : Int)).toNat = ps.length by omega]
    refine lc_rngF (stB ps s) hD (fun _ => rfl) (by omega) (fun i H' Q' hi sm q' => ?_) (fun i H' Q' hi q' => ⟨_, rfl, q'⟩) fun H' sm hDl => k1 D H' hD sm hDl
    have hvs : ps[i]? = some ps[i] := List.getElem?_eq_getElem hi
    refine ⟨_, rfl, lg, dx, _, rfl, sm _ _ hob, lf_no (by decide +kernel), _, rfl, lg, fl, c2, as2, ps, _, rfl, L.same sm, fun j xs e hx H2 s2 => ⟨_, rfl, rfl, _, rfl, ?_⟩, fun hn => absurd ⟨by omega, by omega⟩ hn⟩
    have ej : j = i := by omega
    subst ej
    have eb : decide (V.str (stS xs.length) = V.str s) = stB ps s j := by
      unfold stB
      rw [List.getD_eq_getElem?_getD, hx]
      by_cases z : stS xs.length = s
      · rw [decide_eq_true (show V.str _ = V.str s by rw [z]), decide_eq_true (show stS (Option.getD (some xs) []).length = s from z)]
      · rw [decide_eq_false (show ¬ V.str _ = V.str s from fun y => z (by injection y)), decide_eq_false (show ¬ stS (Option.getD (some xs) []).length = s from z)]
    rw [eb]
    exact q' H2 s2
theorem scFreeM : FnScope ["self"] ["self"] (defScope (cL 5)) := ⟨rfl, rfl, rfl, by decide +kernel, rfl, by decide +kernel, by decide +kernel⟩
theorem ok_freeM (F : Fun K "free_blocks" "Log.free_blocks" (cL 5) f fd) (Y : LT K mg CL) (GB : MDef P wd K mg base CX0 CL "_blocks_that_are" 5 ["self", "state"] (spBlks C CL) fBl fdBl) : FnOk P wd K mg base CX0 6 f fd ["self"] (spBlk1 C CL "free") := by
  refine F.ok scFreeM (fun vs H Q E h => ?_) (fun cdv A outer s H vs Q E hr h => ?_)
  · obtain ⟨lg, fl, c2, as2, ps, rfl, _⟩ := h
    rfl
  · obtain ⟨lg, fl, c2, as2, ps, rfl, L, k1⟩ := h
    obtain ⟨dx, hob⟩ := id L.ob
    exact ⟨_, (pss_one (ps_ret (pe_meth (pv 0) Y.cl GB.me GB.ok hr GB.bd .nil pass0 (pa_cons pe_str pa_nil)))), _, rfl, lg, dx, _, rfl, hob, lf_no (by decide +kernel), lg, fl, c2, as2, ps, _, rfl, L, k1⟩
theorem scClosedM : FnScope ["self"] ["self"] (defScope (cL 6)) := ⟨rfl, rfl, rfl, by decide +kernel, rfl, by decide +kernel, by decide +kernel⟩
theorem ok_closedM (F : Fun K "closed_blocks" "Log.closed_blocks" (cL 6) f fd) (Y : LT K mg CL) (GB : MDef P wd K mg base CX0 CL "_blocks_that_are" 5 ["self", "state"] (spBlks C CL) fBl fdBl) : FnOk P wd K mg base CX0 6 f fd ["self"] (spBlk1 C CL "closed") := by
  refine F.ok scClosedM (fun vs H Q E h => ?_) (fun cdv A outer s H vs Q E hr h => ?_)
  · obtain ⟨lg, fl, c2, as2, ps, rfl, _⟩ := h
    rfl
  · obtain ⟨lg, fl, c2, as2, ps, rfl, L, k1⟩ := h
    obtain ⟨dx, hob⟩ := id L.ob
    exact ⟨_, (pss_one (ps_ret (pe_meth (pv 0) Y.cl GB.me GB.ok hr GB.bd .nil pass0 (pa_cons pe_str pa_nil)))), _, rfl, lg, dx, _, rfl, hob, lf_no (by decide +kernel), lg, fl, c2, as2, ps, _, rfl, L, k1⟩
end
end Sg

set_option Elab.async false
set_option linter.all false
set_option maxRecDepth 100000
set_option maxHeartbeats 4000000
namespace Sg
open PySem PySem.Spec PyProof.Rows L2
theorem Paired.imp2 {α β : Type} {F G : α → β → Prop} (f : ∀ a b, F a b → G a b) : ∀ {l : List α} {m : List β}, Paired F l m → Paired G l m
  | _, _, .nil => .nil
  | _, _, .cons r t => .cons (f _ _ r) (Paired.imp2 f t)
theorem paired_snoc {α β : Type} {F : α → β → Prop} : ∀ {a : List α} {b : List β} {x : α} {y : β}, Paired F a b → F x y → Paired F (a ++ [x]) (b ++ [y])
  | _, _, _, _, .nil, h => .cons h .nil
  | _, _, _, _, .cons r t, h => .cons r (paired_snoc t h)
theorem paired_ofmap {α β γ : Type} {F : α → γ → Prop} {g : β → γ} : ∀ {m : List β} {l : List α}, Paired F l (m.map g) → Paired (fun a b => F a (g b)) l m
  | [], _, h => by cases h; exact .nil
  | b :: m, _, h => by
    cases h with
    | cons r t => exact .cons r (paired_ofmap t)
/-- [(.., ..) for x in xs]: new tuples, cs what they hold -/
theorem lc_tups {K : PySem.W.Frag} {σ : L2.St} {H1 : Hp} {D a : Addr} {vs : List Nat} {j : Nat} {xs : List V} {te : TE} {Qd : Hp → Prop} (cs : List (List V)) (hlen : cs.length = xs.length) (hD : H1 D = Option.none) (hx : SqL K H1 a xs) (hw : ∀ x, wipe ((wipe σ vs).set j (some x)) vs = wipe σ vs) (hz : xs.length ≤ sizeLine)
    (he : ∀ (i : Nat) (x : V) (c : List V) (H' : Hp) (Q' : VK), xs[i]? = some x → cs[i]? = some c → Same H1 H' → (∀ q H'', Same H' H'' → H'' q = some (.tup c) → Q' (.ref q) H'') → te ((wipe σ vs).set j (some x)) H' Q')
    (hd : ∀ H' (qs : List Addr), Same H1 H' → H' D = some (.lst (qs.map V.ref)) → Paired (fun (q : Addr) (c : List V) => H' q = some (.tup c)) qs cs → Qd H') :
    ∃ W : Nat → Nat → Hp → Prop, (∃ m, W 0 m (upd H1 D (.lst []))) ∧ ∀ i m H, W i m H →
      ((Itl K a).stop i H ∧ Qd H) ∨ ((Itl K a).go i H ∧ ∃ Nx : Hp → Prop, (∀ H', Nx H' → ∃ m', m' < m ∧ W (i + 1) m' H') ∧ ∀ x H', (Itl K a).yld i H x H' → gName j x (wipe σ vs) H' fun σ2 H2 => wipe σ2 vs = wipe σ vs ∧ tYes σ2 H2 fun b H3 =>
        if b = true then te σ2 H3 fun y H4 => ∃ acc, H4 D = some (.lst acc) ∧ acc.length < sizeLine ∧ Nx (upd H4 D (.lst (acc ++ [y]))) else Nx H3) := by
  refine lc_list (K := K) (a := a) (xs := xs) (fun i H' => i ≤ xs.length ∧ Same H1 H' ∧ ∃ qs : List Addr, H' D = some (.lst (qs.map V.ref)) ∧ qs.length = i ∧ Paired (fun (q : Addr) (c : List V) => H' q = some (.tup c)) qs (cs.take i)) ⟨Nat.zero_le _, same_new hD, [], upd_same, rfl, by rw [List.take_zero]; exact .nil⟩ (fun i H' _ ⟨_, sm, _⟩ => sm.seq hx) ?_ ?_
  · rintro i x H' hi ⟨_, sm, qs, hDl, hl, pr⟩
    have hil := (List.getElem?_eq_some_iff.mp hi).1
    have hc : cs[i]? = some (cs[i]'(by omega)) := List.getElem?_eq_getElem _
    refine ⟨hw _, yesIte (he i x _ H' _ hi hc sm fun q H'' s2 hq => ⟨_, s2 _ _ hDl, ?_, by omega, ?_, qs ++ [q], ?_, ?_, ?_⟩)⟩
    · rw [List.length_map, hl]; omega
    · intro y o hy'
      rw [upd_ne (ne_of_none hy' hD)]
      exact s2 _ _ (sm _ _ hy')
    · rw [upd_same, List.map_append]; rfl
    · rw [List.length_append, hl]; rfl
    · have keep : ∀ (u : Addr) (c : List V), H'' u = some (.tup c) → upd H'' D (.lst (qs.map V.ref ++ [.ref q])) u = some (.tup c) := fun u c e => by
        rw [upd_ne (ne_of e (s2 _ _ hDl) (by intro z; cases z))]; exact e
      rw [List.take_add_one, hc]
      exact paired_snoc (Paired.imp2 (fun u c e => keep u c (s2 _ _ e)) pr) (keep q _ hq)
  · rintro H' ⟨_, sm, qs, hDl, hl, pr⟩
    exact hd H' qs sm hDl (by rw [← hlen, List.take_length] at pr; exact pr)
/-! ### keys in order -/

theorem Paired.app2 {α β : Type} {F : α → β → Prop} : ∀ {a c : List α} {b d : List β}, Paired F a b → Paired F c d → Paired F (a ++ c) (b ++ d)
  | _, _, _, _, .nil, h => h
  | _, _, _, _, .cons r t, h => .cons r (Paired.app2 t h)
theorem Paired.mapR {α β γ : Type} {F : α → β → Prop} {G : α → γ → Prop} {g : β → γ} (f : ∀ a b, F a b → G a (g b)) : ∀ {l : List α} {m : List β}, Paired F l m → Paired G l (m.map g)
  | _, _, .nil => .nil
  | _, _, .cons r t => .cons (f _ _ r) (Paired.mapR f t)
end Sg

set_option Elab.async false
set_option linter.all false
set_option maxRecDepth 100000
set_option maxHeartbeats 4000000
/-! min(xs) of a list of pairs of numbers -/
namespace Sg
open PySem PySem.Spec PyProof.Rows L2
def ltI (k m : Int × Int) : Bool := decide (k.1 < m.1 ∨ (k.1 = m.1 ∧ k.2 < m.2))
def pkD (k : Int × Int) : PyData := .tuple [.int k.1, .int k.2]
def minI (x : Int × Int) (xs : List (Int × Int)) : Int × Int := xs.foldl (fun b y => if ltI y b = true then y else b) x
theorem minI_le : ∀ (xs : List (Int × Int)) (x : Int × Int), (minI x xs = x ∨ minI x xs ∈ xs) ∧ ltI x (minI x xs) = false ∧ ∀ y ∈ xs, ltI y (minI x xs) = false
  | [], x => ⟨.inl rfl, by simp [minI, ltI], fun y h => nomatch h⟩
  | y :: ys, x => by
    have e : minI x (y :: ys) = minI (if ltI y x = true then y else x) ys := rfl
    rw [e]
    by_cases h : ltI y x = true
    · rw [if_pos h]
      obtain ⟨a, b, c⟩ := minI_le ys y
      refine ⟨.inr ?_, ?_, fun z hz => ?_⟩
      · rcases a with a | a
        · rw [a]; exact List.mem_cons_self
        · exact List.mem_cons_of_mem _ a
      · simp only [ltI, decide_eq_false_iff_not, decide_eq_true_eq] at h b ⊢
        omega
      · rcases List.mem_cons.mp hz with rfl | hz
        · exact b
        · exact c z hz
    · rw [if_neg h]
      obtain ⟨a, b, c⟩ := minI_le ys x
      refine ⟨?_, b, fun z hz => ?_⟩
      · rcases a with a | a
        · exact .inl a
        · exact .inr (List.mem_cons_of_mem _ a)
      · rcases List.mem_cons.mp hz with rfl | hz
        · simp only [ltI, decide_eq_false_iff_not, decide_eq_true_eq] at h b ⊢
          omega
        · exact c z hz
theorem minI_D : ∀ (xs : List (Int × Int)) (x : Int × Int), PySem.W.minD (pkD x) (xs.map pkD) = pkD (minI x xs)
  | [], x => rfl
  | y :: ys, x => by
    have e1 : PySem.W.minD (pkD x) ((y :: ys).map pkD) = PySem.W.minD (if PySem.W.dataLt (pkD y) (pkD x) = true then pkD y else pkD x) (ys.map pkD) := rfl
    have e2 : minI x (y :: ys) = minI (if ltI y x = true then y else x) ys := rfl
    rw [e1, e2, show PySem.W.dataLt (pkD y) (pkD x) = ltI y x from PySem.W.dataLt_ii _ _ _ _]
    by_cases h : ltI y x = true
    · rw [if_pos h, if_pos h]; exact minI_D ys y
    · rw [if_neg h, if_neg h]; exact minI_D ys x
def rMinP (K : PySem.W.Frag) : List V → Hp → VK → Prop := fun vs H Q => ∃ (a : Addr) (ts : List Addr) (k : Int × Int) (ks : List (Int × Int)), vs = [.ref a] ∧ SqL K H a (ts.map V.ref) ∧ Paired (fun t (k : Int × Int) => H t = some (.tup [.int k.1, .int k.2])) ts (k :: ks) ∧
  ∀ t, H t = some (.tup [.int (minI k ks).1, .int (minI k ks).2]) → Q (.ref t) H
theorem pk_dps {K : PySem.W.Frag} {H : Hp} : ∀ {ts : List Addr} {ks : List (Int × Int)}, Paired (fun t (k : Int × Int) => H t = some (.tup [.int k.1, .int k.2])) ts ks → DpAll K H (ts.map V.ref) (ks.map pkD)
  | _, _, .nil => .nil
  | _, _, .cons r t => .cons (.tup (SqT.of r) (.cons (.int _) (.cons (.int _) .nil))) (pk_dps t)
theorem pk_lay (k : Int × Int) : (pkD k).canLay0 = true ∧ (pkD k).depth = 1 := ⟨by simp [pkD, PyData.canLay0, PyData.canLayAll0], by simp [pkD, PyData.depth, PyData.depthAll]⟩
theorem pk_depth : ∀ ks : List (Int × Int), PyData.depthAll (ks.map pkD) ≤ 1
  | [] => by simp [PyData.depthAll]
  | k :: ks => by
    have := pk_depth ks
    have := (pk_lay k).2
    simp only [List.map_cons, PyData.depthAll]; omega
theorem paired_at {α β : Type} {F : α → β → Prop} : ∀ {a : List α} {b : List β} {i : Nat} {x : α}, Paired F a b → a[i]? = some x → ∃ y, b[i]? = some y ∧ F x y
  | _, _, 0, _, .cons r _, h => ⟨_, rfl, by rw [← Option.some.inj h]; exact r⟩
  | _, _, i + 1, x, .cons (a := p) _ t, h => paired_at (i := i) t (by simpa using h)
section
variable {X : Cx}
theorem call_minP (hcalm : X.calm = true) (hu : X.A.units + 64 < cLine) : CallR X (.builtin "min") (rMinP X.K) := by
  intro pins s σ H vs us Q I r h
  obtain ⟨a, ts, k, ks, rfl, hs, hp, q⟩ := h
  obtain ⟨its, rv, hl, hz⟩ := I.list hs
  obtain ⟨u, rfl, ru⟩ := vals1 r
  obtain rfl : u = Value.ref a := ru
  obtain ⟨as, hr⟩ := Dp.readsAll I _ _ its (pk_dps (K := X.K) hp) rv
  refine PySem.W.min_list_data (x := pkD k) (xs := ks.map pkD) (I.ok.hd hcalm) hl.isList hr ?_ ?_ fun i v h' tk bs hi hrd hk => ?_
  · refine ⟨fun x hx y hy => ?_, fun x hx => ?_⟩
    · obtain ⟨x, _, rfl⟩ := List.mem_map.mp (show x ∈ (k :: ks).map pkD from hx)
      obtain ⟨y, _, rfl⟩ := List.mem_map.mp (show y ∈ (k :: ks).map pkD from hy)
      simp [pkD, PySem.W.alike, PySem.W.alikeAll]
    · obtain ⟨x, _, rfl⟩ := List.mem_map.mp (show x ∈ (k :: ks).map pkD from hx)
      intro z; cases z
  · have := pk_depth (k :: ks)
    show X.A.units + 1 + PyData.depthAll ((k :: ks).map pkD) < cLine
    omega
  · have hi' : its[i]? = some v := by simpa using hi
    have hv := refs_at rv
    rw [hv] at hi'
    obtain ⟨t, ht, rfl⟩ := map_get hi'
    obtain ⟨m, hm, hH⟩ := paired_at hp ht
    have I2 : Inv X pins σ H { s with heap := h', toks := tk } := I.kept (t' := tk) hk
    obtain ⟨bs', r2⟩ := Dp.reads I2 (pkD m) (.ref t) (.ref t) (.tup (SqT.of hH) (.cons (.int _) (.cons (.int _) .nil))) rfl
    have e := (Reads.unique r2 _ _ hrd).1
    rw [minI_D] at e
    have e2 : m = minI k ks := by
      obtain ⟨m1, m2⟩ := m
      unfold pkD at e
      injection e with e
      injection e with a b
      injection b with b c
      injection a with a
      injection b with b
      exact Prod.ext a b
    exact ⟨.ref t, H, I2, rfl, q t (by rw [← e2]; exact hH)⟩
end
end Sg

set_option Elab.async false
set_option linter.all false
set_option maxRecDepth 100000
set_option maxHeartbeats 4000000
namespace Sg
open PySem PySem.Spec PyProof.Rows L2
theorem ps_badFlash {X : Cx} {W : WX} {p pos pos2 : Pos} {CB CR CS : Addr} (T : LE X.K X.mg CB CR CS) (hc : X.calm = true) (tk : Takes X W) (hg : Gl X "BadFlash") : PS X (.Raise (some (.Call (.Name "BadFlash" p) [] [] pos)) none pos2) (fun _ σ H => W (.ref CB) Option.none σ H) :=
  ps_raise hc tk (pmk_own0 PySem.F.excBase_ValueError T.xB T.gB T.kB (raises_own T.bB T.tB) hg)
theorem ps_noRoom {X : Cx} {W : WX} {p pos pos2 : Pos} {CB CR CS : Addr} (T : LE X.K X.mg CB CR CS) (hc : X.calm = true) (tk : Takes X W) (hg : Gl X "NoRoom") : PS X (.Raise (some (.Call (.Name "NoRoom" p) [] [] pos)) none pos2) (fun _ σ H => W (.ref CR) Option.none σ H) :=
  ps_raise hc tk (pmk_own0 PySem.F.excBase_ValueError T.xR T.gR T.kR (raises_own T.bR T.tR) hg)
def lenB (ps : List (List V)) (b : Nat) : Nat := (ps.getD b []).length
def sumOpen (ps : List (List V)) : Int := ((blks ps "open").map fun b => (8 : Int) - (lenB ps b : Int)).sum
def roomM (ps : List (List V)) (cp : Bool) : Int :=
  if cp = false ∧ (blks ps "free").length = 0 then 0 else sumOpen ps + 8 * (if cp = true then ((blks ps "free").length : Int) else ((blks ps "free").length : Int) - 1)
def nextM (ws : List Int) (ps : List (List V)) : Nat := match blks ps "open" with
  | b :: _ => b
  | [] => match (blks ps "free").map fun b => ((ws.getD b 0 : Int), (b : Int)) with
    | k :: ks => (minI k ks).2.toNat
    | [] => 0
theorem blks_mem {ps : List (List V)} {s : Str} {b : Nat} (h : b ∈ blks ps s) : ∃ xs, ps[b]? = some xs ∧ stS xs.length = s ∧ b < ps.length ∧ lenB ps b = xs.length := by
  unfold blks at h
  obtain ⟨h1, h2⟩ := List.mem_filter.mp h
  have hb := List.mem_range.mp h1
  have e := List.getElem?_eq_getElem hb
  have e2 : ps.getD b [] = ps[b] := by rw [List.getD_eq_getElem?_getD, e]; rfl
  refine ⟨_, e, ?_, hb, by unfold lenB; rw [e2]⟩
  unfold stB at h2
  rw [e2] at h2
  exact of_decide_eq_true h2
theorem blks_len (ps : List (List V)) (s : Str) : (blks ps s).length ≤ ps.length := by
  unfold blks
  refine Nat.le_trans (List.length_filter_le _ _) ?_
  rw [List.length_range]; exact Nat.le_refl _
def own (fl w c c2 : Addr) (as as2 : List Addr) : List Addr := fl :: w :: c :: c2 :: (as ++ as2)
structure WL (C CL : Addr) (H : Hp) (fl w c : Addr) (as : List Addr) (ws : List Int) (lg c2 : Addr) (as2 : List Addr) (ps : List (List V)) (rm : V) : Prop where
  fa : FlashAt C H fl w c as ws ps true rm .non
  lo : LogAt C CL H lg fl c2 as2 ps
  n1 : lg ≠ fl
  n2 : c2 ∉ fl :: w :: c :: as
  n3 : ∀ a ∈ as2, a ∉ fl :: w :: c :: as
theorem WL.same {C CL : Addr} {H H' : Hp} {fl w c : Addr} {as : List Addr} {ws : List Int} {lg c2 : Addr} {as2 : List Addr} {ps : List (List V)} {rm : V} (h : WL C CL H fl w c as ws lg c2 as2 ps rm) (s : Same H H') : WL C CL H' fl w c as ws lg c2 as2 ps rm :=
  ⟨h.fa.same' s, h.lo.same s, h.n1, h.n2, h.n3⟩
def spRoom (C CL : Addr) : Sp := fun vs H Q _ => ∃ lg fl c2 as2 ps cp, vs = [.ref lg, .bl cp] ∧ LogAt C CL H lg fl c2 as2 ps ∧ ∀ H', Same H H' → Q (.int (roomM ps cp)) H'
def spNext (C CL : Addr) : Sp := fun vs H Q _ => ∃ fl w c as ws lg c2 as2 ps rm, vs = [.ref lg] ∧ WL C CL H fl w c as ws lg c2 as2 ps rm ∧ (blks ps "open" ≠ [] ∨ blks ps "free" ≠ []) ∧ ∀ H', Same H H' → nextM ws ps < ps.length → (∀ xs, ps[nextM ws ps]? = some xs → xs.length < 8) → Q (.int (nextM ws ps : Int)) H'
section
theorem nil_ {σ : L2.St} {H : Hp} {Q : List V → Hp → Prop} (h : Q [] H) : tNil σ H Q := h
variable {P : Program} {wd : World} {K : PySem.W.Frag} {mg : Str → Option Value} {base : Heap} {f C CL CN CP CS CB CR fW fB fF fPa fSt fBl fFr fWe fRo fNx fPr fEr : Addr} {fd fdB fdF fdPa fdSt fdBl fdFr fdWe fdRo fdNx fdPr fdEr : FuncData}
theorem scRoomM : FnScope ["self","is_copy","free","usable","begun","block"] ["self","is_copy"] (defScope (cL 2)) := ⟨rfl, rfl, rfl, by decide +kernel, rfl, by decide +kernel, by decide +kernel⟩
theorem ok_roomM (F : Fun K "room" "Log.room" (cL 2) f fd) (T : FT K mg C CN CP CS fW fB) (Y : LT K mg CL) (GF : Def P wd K mg base CX0 "first_erased" 1 ["pages"] spFirst fF fdF) (GP : MDef P wd K mg base (L2.CX P wd) CL "pages" 3 ["self", "block"] (spPages C CL CN) fPa fdPa)
    (GB : MDef P wd K mg base CX0 CL "_blocks_that_are" 5 ["self", "state"] (spBlks C CL) fBl fdBl) (GR : MDef P wd K mg base CX0 CL "free_blocks" 6 ["self"] (spBlk1 C CL "free") fFr fdFr) : FnOk P wd K mg base CX0 7 f fd ["self","is_copy"] (spRoom C CL) := by
  obtain ⟨tk, hpag⟩ := T.pag
  refine F.ok scRoomM (fun vs H Q E h => ?_) (fun cdv A outer s H vs Q E hr h => ?_)
  · obtain ⟨lg, fl, c2, as2, ps, b, rfl, _⟩ := h
    rfl
  · obtain ⟨lg, fl, c2, as2, ps, cp, rfl, L, k1⟩ := h
    have hr1 : Room 1 _ := hr.mono (by decide)
    have hr3 : Room 3 _ := hr.mono (by decide)
    have hr5 : Room 5 _ := hr.mono (by decide)
    refine ⟨_, (pss_cons (ps_set (i := 2) scRoomM.nd rfl (Or.inl rfl) (pe_callB call_len_seq (by rfl) T.bt.len PySem.boot_len (pa_cons (pe_meth0 (pv 0) Y.cl GR.me GR.ok hr GR.bd .nil pass0) pa_nil)))
      (Evl.pss_cut (ps_if (PW.pt (pw_and (pt_not (pt_val (pv 1))) (pw_and1 (pt_cmpR op_eq (pv 2) pe_int (nomark _)))))
      (pss_one (ps_ret pe_int)) pss_nil)
      (Evl.pss_cut (ps_set (i := 3) scRoomM.nd rfl (Or.inl rfl) (pe_ifExp (pt_val (pv 1)) (pv 2) (pe_op op_sub (pv 2) pe_int)))
      (pss_cons (ps_setLc (i := 4) (own := [("block", 5)]) (g := gName 5) (tt := tYes) (te := tOp (rI0 fun i j => V.int (i - j)) (tC (.int 8)) (tCall spFirst [] E0 (tCons (tMeth CL "pages" (spPages C CL CN) [] E0 (tVar 0) (tCons (tVar 5) tNil)) tNil))) (by rfl) scRoomM.nd rfl rfl (sw_true rfl rfl rfl (by decide +kernel)) (pi_list (pe_meth (pv 0) Y.cl GB.me GB.ok hr5 GB.bd .nil pass0 (pa_cons pe_str pa_nil))) (blkOk_by (own := [("block", 5)]) (N := ["self", "is_copy", "free", "usable", "begun", "block"]) (sc := defScope sRoomM) (by decide +kernel)) (fun _ _ _ _ _ => pg_name (i := 5) scRoomM.nd rfl (Or.inl rfl)) (fun _ _ _ _ _ => pts_nil) (fun _ _ _ _ _ => by exact (pe_op op_sub (pe_glob (v := .int 8) (by rfl) hpag ⟨_, rfl⟩) (pe_call GF.ok hr1 (by rfl) GF.mg GF.kp GF.bd .nil pass0 (pa_cons (pe_meth (pv 0) Y.cl GP.me GP.ok hr3 GP.bd .nil passL (pa_cons (pv 5) pa_nil)) pa_nil)))))
      (pss_one (ps_ret (pe_op op_add (pe_callB (cr_sum rfl) (by rfl) Y.s_sum (by decide +kernel) (pa_cons (pv 4) pa_nil)) (pe_op op_mul (pe_glob (v := .int 8) (by rfl) hpag ⟨_, rfl⟩) (pv 3))))))))), ?_⟩
    obtain ⟨dx, hob⟩ := id L.ob
    have hle := L.le
    have hfl := blks_len ps "free"
    have hol := blks_len ps "open"
    refine ⟨_, rfl, lg, dx, _, rfl, hob, lf_no (by decide +kernel), lg, fl, c2, as2, ps, rfl, L, fun l H1 hl s1 hi => ?_⟩
    refine ⟨l, _, rfl, .inl (SqL.of hi), ?_⟩
    rw [List.length_map]
    have key := k1
    unfold roomM at key
    refine ⟨fun σ' H' => σ' = [some (.ref lg), some (.bl cp), some (.int ((blks ps "free").length : Int)), none, none, none] ∧ H' = H1 ∧ ¬ (cp = false ∧ (blks ps "free").length = 0), ?_, ?_⟩
    · refine ⟨_, rfl, cp, rfl, ?_⟩
      cases cp with
      | true => exact iteF (iteF ⟨rfl, rfl, fun z => by cases z.1⟩)
      | false =>
        refine iteT ⟨_, rfl, rfl, _, rfl, ?_⟩
        by_cases e0 : (blks ps "free").length = 0
        · rw [decide_eq_true (show V.int ((blks ps "free").length : Int) = V.int 0 by rw [e0]; rfl)]
          have := key H1 s1
          rw [if_pos ⟨rfl, e0⟩] at this
          exact iteT this
        · rw [decide_eq_false (show ¬ V.int ((blks ps "free").length : Int) = V.int 0 from fun z => e0 (by have := V.int.inj z; omega))]
          exact iteF ⟨rfl, rfl, fun z => e0 z.2⟩
    rintro σ1 H1' ⟨rfl, rfl, hne⟩
    refine ⟨fun σ' H' => σ' = [some (.ref lg), some (.bl cp), some (.int ((blks ps "free").length : Int)), some (.int (if cp = true then ((blks ps "free").length : Int) else ((blks ps "free").length : Int) - 1)), none, none] ∧ H' = H1', ?_, ?_⟩
    · refine ⟨_, rfl, cp, rfl, ?_⟩
      cases cp with
      | true => exact iteT ⟨_, rfl, rfl, rfl⟩
      | false => exact iteF ⟨_, rfl, _, _, rfl, rfl, rfl, rfl⟩
    rintro σ2 H2 ⟨rfl, rfl⟩
    refine ⟨_, rfl, lg, dx, _, rfl, s1 _ _ hob, lf_no (by decide +kernel), lg, fl, c2, as2, ps, _, rfl, L.same s1, fun lo H3 hlo s3 hio => ?_⟩
    refine ⟨lo, rfl, ⟨_, SqL.of hio⟩, fun D hD => ?_⟩
    have s13 := s1.trans s3
    refine lc_mapS ((blks ps "open").map fun b => V.int (8 - (lenB ps b : Int))) (by rw [List.length_map, List.length_map]) hD (SqL.of hio) (fun _ => rfl) (by rw [List.length_map]; omega) (fun i x y H' Q' hx hy sm q' => ?_) fun H' sm hDl => ?_
    · obtain ⟨b, hb, rfl⟩ := map_get hx
      rw [List.getElem?_map, hb] at hy
      cases hy
      obtain ⟨xs, e1, _, hbl, e3⟩ := blks_mem (List.mem_of_getElem? hb)
      dsimp only at q'
      rw [e3] at q'
      refine ⟨_, rfl, lg, dx, _, rfl, sm _ _ (s13 _ _ hob), lf_no (by decide +kernel), _, rfl, lg, fl, c2, as2, ps, _, rfl, L.same (s13.trans sm), fun j xs' ej hx' l' H'' hl' s'' hrow => ?_, fun hn => absurd ⟨by omega, by omega⟩ hn⟩
      have : j = b := by omega
      subst this
      rw [e1] at hx'; cases hx'
      exact nil_ ⟨l', xs, rfl, hrow, (L.same (s13.trans (sm.trans s''))).pg xs (List.mem_of_getElem? e1), _, _, rfl, rfl, q' H'' s''⟩
    · have e : ((blks ps "open").map fun b => V.int (8 - (lenB ps b : Int))) = ((blks ps "open").map fun b => (8 : Int) - (lenB ps b : Int)).map V.int := by rw [List.map_map]; rfl
      rw [e] at hDl
      refine ⟨_, rfl, D, _, rfl, SqL.of hDl, _, rfl, _, _, rfl, rfl, .inl ⟨by decide, by decide⟩, _, _, rfl, rfl, ?_⟩
      have := key H' (s13.trans sm)
      rw [if_neg hne] at this
      exact this
theorem scNextM : FnScope ["self","begun","_","least_worn","block"] ["self"] (defScope (cL 12)) := ⟨rfl, rfl, rfl, by decide +kernel, rfl, by decide +kernel, by decide +kernel⟩
theorem ok_nextM (F : Fun K "_next_block" "Log._next_block" (cL 12) f fd) (T : FT K mg C CN CP CS fW fB) (Y : LT K mg CL) (GB : MDef P wd K mg base CX0 CL "_blocks_that_are" 5 ["self", "state"] (spBlks C CL) fBl fdBl) (GR : MDef P wd K mg base CX0 CL "free_blocks" 6 ["self"] (spBlk1 C CL "free") fFr fdFr)
    (GW : MDef P wd K mg base (L2.CX P wd) C "wear" 4 ["self", "block"] (spWear C CN) fWe fdWe) : FnOk P wd K mg base CX0 7 f fd ["self"] (spNext C CL) := by
  refine F.ok scNextM (fun vs H Q E h => ?_) (fun cdv A outer s H vs Q E hr h => ?_)
  · obtain ⟨fl, w, c, as, ws, lg, c2, as2, ps, rm, rfl, _⟩ := h
    rfl
  · obtain ⟨fl, w, c, as, ws, lg, c2, as2, ps, rm, rfl, W, hne, k1⟩ := h
    have hr4 : Room 4 _ := hr.mono (by decide)
    have hr5 : Room 5 _ := hr.mono (by decide)
    refine ⟨_, (pss_cons (ps_set (i := 1) scNextM.nd rfl (Or.inl rfl) (pe_meth (pv 0) Y.cl GB.me GB.ok hr5 GB.bd .nil pass0 (pa_cons pe_str pa_nil)))
      (pss_cons (ps_if (pt_truth (pv 1) (by intro _; rfl))
      (pss_one (ps_ret (pe_ix ix_list (pv 1) pe_int (fun _ _ => rfl)))) pss_nil)
      (pss_cons (ps_asg (pe_callB (call_minP rfl hr.units) (by rfl) Y.s_min (by decide +kernel) (pa_cons (pe_lc (own := [("block", 4)]) (g := gName 4) (tt := tYes) (te := tTup (tCons (tMeth C "wear" (spWear C CN) [] E0 (tFld K (tVar 0) "flash") (tCons (tVar 4) tNil)) (tCons (tVar 4) tNil))) (by rfl) scNextM.nd (pi_list (pe_meth0 (pv 0) Y.cl GR.me GR.ok hr GR.bd .nil pass0)) (blkOk_by (own := [("block", 4)]) (N := ["self", "begun", "_", "least_worn", "block"]) (sc := defScope sNextM) (by decide +kernel)) (fun _ _ _ _ _ => pg_name (i := 4) scNextM.nd rfl (Or.inl rfl)) (fun _ _ _ _ _ => pts_nil) (fun _ _ _ _ _ => by exact (pe_tup (pa_cons (pe_meth (pe_fld (pv 0) rfl) T.cl GW.me GW.ok hr4 GW.bd .nil passL (pa_cons (pv 4) pa_nil)) (pa_cons (pv 4) pa_nil))))) pa_nil)) (pg_tup (by rfl) (pgs_cons (pg_name (i := 2) scNextM.nd rfl (Or.inl rfl)) (pgs_cons (pg_name (i := 3) scNextM.nd rfl (Or.inl rfl)) L2.pgs_nil))))
      (pss_one (ps_ret (pv 3)))))), ?_⟩
    have L := W.lo
    obtain ⟨dx, hob⟩ := id L.ob
    obtain ⟨dxf, hfo⟩ := id W.fa.ob
    have hle := L.le
    have hlw := W.fa.lw
    refine ⟨_, rfl, lg, dx, _, rfl, hob, lf_no (by decide +kernel), lg, fl, c2, as2, ps, _, rfl, L, fun l H1 hl s1 hi => ?_⟩
    have open8 : ∀ b ∈ blks ps "open", b < ps.length ∧ ∀ xs, ps[b]? = some xs → xs.length < 8 := fun b hb => by
      obtain ⟨xs, e1, e2, e3, _⟩ := blks_mem hb
      refine ⟨e3, fun ys hy => ?_⟩
      rw [e1] at hy; cases hy
      have h8 := (L.pg xs (List.mem_of_getElem? e1)).1
      rcases Nat.lt_or_ge xs.length 8 with z | z
      · exact z
      · have : xs.length = 8 := by omega
        rw [this] at e2
        exact absurd e2 (by decide)
    have free0 : ∀ b ∈ blks ps "free", b < ps.length ∧ ∀ xs, ps[b]? = some xs → xs.length < 8 := fun b hb => by
      obtain ⟨xs, e1, e2, e3, _⟩ := blks_mem hb
      refine ⟨e3, fun ys hy => ?_⟩
      rw [e1] at hy; cases hy
      unfold stS at e2
      by_cases z : xs.length = 0
      · omega
      · rw [if_neg z] at e2
        split at e2 <;> exact absurd e2 (by decide)
    refine ⟨_, rfl, _, .inl ⟨_, SqL.of hi, rfl⟩, ?_⟩
    cases ho : blks ps "open" with
    | cons b bs =>
      have hb : b ∈ blks ps "open" := by rw [ho]; exact List.mem_cons_self
      have en : nextM ws ps = b := by unfold nextM; rw [ho]
      have := k1 H1 s1 (by rw [en]; exact (open8 b hb).1) (by rw [en]; exact (open8 b hb).2)
      rw [en] at this
      rw [ho] at hi
      exact iteT ⟨_, rfl, l, _, _, _, rfl, rfl, SqL.of hi, atI_nat (j := 0) rfl, this⟩
    | nil =>
      refine iteF ?_
      have hfr : blks ps "free" ≠ [] := hne.resolve_left fun z => z ho
      refine ⟨_, rfl, lg, dx, _, rfl, s1 _ _ hob, lf_no (by decide +kernel), lg, fl, c2, as2, ps, rfl, L.same s1, fun lf' H3 hlf s3 hif => ?_⟩
      refine ⟨lf', rfl, ⟨_, SqL.of hif⟩, fun D hD => ?_⟩
      have s13 := s1.trans s3
      have hfl := blks_len ps "free"
      refine lc_tups ((blks ps "free").map fun b => [V.int (ws.getD b 0), V.int (b : Int)]) (by rw [List.length_map, List.length_map]) hD (SqL.of hif) (fun _ => rfl) (by rw [List.length_map]; exact Nat.le_of_lt (small1000 (by omega))) (fun i x cc H' Q' hx hc sm q' => ?_) fun H' qs sm hDl pr => ?_
      · obtain ⟨b, hb, rfl⟩ := map_get hx
        rw [List.getElem?_map, hb] at hc
        cases hc
        have hbl := (free0 b (List.mem_of_getElem? hb)).1
        have hw : ws[b]? = some (ws.getD b 0) := by
          rw [List.getD_eq_getElem?_getD, List.getElem?_eq_getElem (by omega)]; rfl
        refine ⟨_, rfl, lg, CL, dx, _, _, rfl, sm _ _ (s13 _ _ hob), Y.cl, Y.nf, lf_flash, fl, dxf, _, rfl, sm _ _ (s13 _ _ hfo), ff_no (by decide +kernel), _, rfl, fl, w, c, as, ws, ps, true, rm, .non, _, rfl, W.fa.same' (s13.trans sm), fun hn => absurd ⟨by omega, by omega⟩ hn, fun j wv ej hj => ?_⟩
        have : j = b := by omega
        subst this
        rw [hw] at hj; cases hj
        exact ⟨_, rfl, by show 2 ≤ sizeLine; decide, fun t ht => q' t _ (same_new ht) upd_same⟩
      · have pr2 : Paired (fun t (k : Int × Int) => H' t = some (.tup [.int k.1, .int k.2])) qs ((blks ps "free").map fun b => ((ws.getD b 0 : Int), (b : Int))) :=
          Paired.mapR (g := fun b : Nat => ((ws.getD b 0 : Int), (b : Int))) (fun (t : Addr) (b : Nat) e => e) (paired_ofmap (F := fun (q : Addr) (c : List V) => H' q = some (.tup c)) (g := fun b : Nat => [V.int (ws.getD b 0), V.int (b : Int)]) pr)
        have hn : nextM ws ps ∈ blks ps "free" ∧ ∀ k ks, ((blks ps "free").map fun b => ((ws.getD b 0 : Int), (b : Int))) = k :: ks → (minI k ks).2 = (nextM ws ps : Int) := by
          unfold nextM
          rw [ho]
          dsimp only
          cases e : (blks ps "free").map fun b => ((ws.getD b 0 : Int), (b : Int)) with
          | nil => exact absurd (List.map_eq_nil_iff.mp e) hfr
          | cons k ks =>
            dsimp only
            have hm : minI k ks ∈ (blks ps "free").map fun b => ((ws.getD b 0 : Int), (b : Int)) := by
              rw [e]
              rcases (minI_le ks k).1 with z | z
              · rw [z]; exact List.mem_cons_self
              · exact List.mem_cons_of_mem _ z
            obtain ⟨b, hb, eb⟩ := List.mem_map.mp hm
            rw [← eb]
            refine ⟨by simpa using hb, fun k' ks' z => ?_⟩
            cases z
            rw [← eb]; simp
        cases e : (blks ps "free").map fun b => ((ws.getD b 0 : Int), (b : Int)) with
        | nil => exact absurd (List.map_eq_nil_iff.mp e) hfr
        | cons k ks =>
          rw [e] at pr2
          refine ⟨D, qs, k, ks, rfl, SqL.of hDl, pr2, fun t ht => ?_⟩
          rw [hn.2 k ks e] at ht
          exact ⟨t, _, rfl, SqT.of ht, rfl, _, _, rfl, _, _, rfl, rfl, _, rfl, k1 H' (s13.trans sm) (free0 _ hn.1).1 (free0 _ hn.1).2⟩
end
end Sg

set_option Elab.async false
set_option linter.all false
set_option maxRecDepth 100000
set_option maxHeartbeats 4000000
namespace Sg
open PySem PySem.Spec PyProof.Rows L2
def RecP (H : Hp) (rv : V) : Prop := ∃ t xs, rv = .ref t ∧ H t = some (.tup xs) ∧ xs.all flatC = true
theorem RecP.pg {H : Hp} {rv : V} (h : RecP H rv) : PgN H rv := .inr h
def addM (ws : List Int) (ps : List (List V)) (rv : V) : List (List V) := ps.set (nextM ws ps) (ps.getD (nextM ws ps) [] ++ [rv])
def spAppend (C CL CR CP : Addr) : Sp := fun vs H Q E => ∃ fl w c as ws lg c2 as2 ps rm rv cp, vs = [.ref lg, rv, .bl cp] ∧ WL C CL H fl w c as ws lg c2 as2 ps rm ∧ (rm = .non ∨ ∃ r, rm = .int r) ∧ RecP H rv ∧
  (roomM ps cp = 0 → ∀ H', Same H H' → E (.ref CR) Option.none H') ∧
  (roomM ps cp ≠ 0 → rm = .int 0 → ∀ t H', H t = Option.none → H' t = some (.tup [.int (nextM ws ps : Int), .int ((ps.getD (nextM ws ps) []).length : Int), rv]) → FlashAt C H' fl w c as ws ps false (.int 0) (.ref t) → Off [fl] H H' → Tups H H' → E (.ref CP) Option.none H') ∧
  (roomM ps cp ≠ 0 → rm ≠ .int 0 → ∀ H', WL C CL H' fl w c as ws lg c2 as2 (addM ws ps rv) (remAfter rm) → Off (own fl w c c2 as as2) H H' → Tups H H' → Q .non H')
def spEraseM (C CL CN CP : Addr) : Sp := fun vs H Q E => ∃ fl w c as ws lg c2 as2 ps rm b, vs = [.ref lg, .int b] ∧ WL C CL H fl w c as ws lg c2 as2 ps rm ∧ (rm = .non ∨ ∃ r, rm = .int r) ∧
  ((∀ (j : Nat) xs, b = (j : Int) → ps[j]? = some xs → stS xs.length ≠ "closed") → ∀ H', Same H H' → E (.ref CN) Option.none H') ∧
  (∀ (j : Nat) xs wv, b = (j : Int) → ps[j]? = some xs → stS xs.length = "closed" → ws[j]? = some wv → (rm = .int 0 → ∀ t H', H t = Option.none → H' t = some (.tup [.int (j : Int), .non, .non]) → FlashAt C H' fl w c as ws ps false (.int 0) (.ref t) → Off [fl] H H' → Tups H H' → E (.ref CP) Option.none H') ∧ (rm ≠ .int 0 → ∀ as' as2' H', WL C CL H' fl w c as' (ws.set j (wv + 1)) lg c2 as2' (ps.set j []) (remAfter rm) → Off (own fl w c c2 as as2) H H' → Tups H H' → (∀ a ∈ own fl w c c2 as' as2', a ∈ own fl w c c2 as as2 ∨ H a = Option.none) → Q .non H'))
theorem room_some {ps : List (List V)} {cp : Bool} (h : roomM ps cp ≠ 0) : blks ps "open" ≠ [] ∨ blks ps "free" ≠ [] := by
  by_cases a : blks ps "open" = []
  · refine .inr fun b => h ?_
    unfold roomM sumOpen
    rw [a, b]
    cases cp <;> simp
  · exact .inl a
theorem LogAt.off {C CL : Addr} {H H' : Hp} {lg fl c2 : Addr} {as2 : List Addr} {ps : List (List V)} {xs : List Addr} (h : LogAt C CL H lg fl c2 as2 ps) (o : Off xs H H') (t : Tups H H') (nl : lg ∉ xs) (nc : c2 ∉ xs) (na : ∀ a ∈ as2, a ∉ xs) (fb : Blk C H' fl ps.length) : LogAt C CL H' lg fl c2 as2 ps := by
  obtain ⟨⟨dx, a⟩, b, c, d, e⟩ := h
  exact ⟨⟨dx, o _ _ a nl⟩, b.keep (fun x hx => o _ _ hx nc) (fun a ha x hx => o _ _ hx (na a ha)), c.mono t, fb, e⟩
theorem row_at {C CL : Addr} {H : Hp} {fl w c : Addr} {as : List Addr} {ws : List Int} {lg c2 : Addr} {as2 : List Addr} {ps : List (List V)} {rm : V} (W : WL C CL H fl w c as ws lg c2 as2 ps rm) : lg ∉ fl :: w :: c :: as := by
  obtain ⟨dx, h⟩ := W.lo.ob
  intro m
  rcases List.mem_cons.mp m with e | m
  · exact W.n1 e
  rcases List.mem_cons.mp m with e | m
  · rw [e, W.fa.wl] at h; cases h
  rcases List.mem_cons.mp m with e | m
  · rw [e, W.fa.gr.ls] at h; cases h
  obtain ⟨i, hi⟩ := List.getElem?_of_mem m
  have hl := W.fa.gr.len
  have hi' : i < ps.length := by rw [← hl]; exact (List.getElem?_eq_some_iff.mp hi).1
  rw [W.fa.gr.rows i lg _ hi (List.getElem?_eq_getElem hi')] at h
  cases h
theorem FlashAt.off {C : Addr} {H H' : Hp} {p w c : Addr} {as : List Addr} {ws : List Int} {ps : List (List V)} {pw : Bool} {rm it : V} {xs : List Addr} (F : FlashAt C H p w c as ws ps pw rm it) (o : Off xs H H') (t : Tups H H') (n : ∀ x ∈ p :: w :: c :: as, x ∉ xs) : FlashAt C H' p w c as ws ps pw rm it := by
  obtain ⟨dx, h⟩ := F.ob
  have n3 : c ∉ xs := n _ (List.mem_cons_of_mem _ (List.mem_cons_of_mem _ List.mem_cons_self))
  exact ⟨⟨dx, o _ _ h (n _ List.mem_cons_self)⟩, o _ _ F.wl (n _ (List.mem_cons_of_mem _ List.mem_cons_self)), F.gr.keep (fun x hx => o _ _ hx n3) (fun a ha x hx => o _ _ hx (n a (List.mem_cons_of_mem _ (List.mem_cons_of_mem _ (List.mem_cons_of_mem _ ha))))), F.lw, F.pg.mono t, F.nwc, F.nwa⟩
theorem kit_tt {K : PySem.W.Frag} : PySem.W.kitOne K (.type "tuple") (.type "tuple") = some true := kit_ty (by decide +kernel)
theorem off_sub {xs ys : List Addr} {H H' : Hp} (o : Off xs H H') (h : ∀ x ∈ xs, x ∈ ys) : Off ys H H' := fun b u e n => o b u e fun m => n (h b m)
theorem off_trans {xs : List Addr} {H H1 H2 : Hp} (a : Off xs H H1) (b : Off xs H1 H2) : Off xs H H2 := fun x u h n => b _ _ (a _ _ h n) n
theorem off_same {xs : List Addr} {H H' : Hp} (s : Same H H') : Off xs H H' := fun _ _ h _ => s _ _ h
theorem off_upd {xs : List Addr} {H : Hp} {p : Addr} {o : HO} (h : p ∈ xs) : Off xs H (upd H p o) := fun b u e n => by
  rw [upd_ne (fun (z : b = p) => n (by rw [z]; exact h))]; exact e
section
variable {P : Program} {wd : World} {K : PySem.W.Frag} {mg : Str → Option Value} {base : Heap} {f C CL CN CP CS CB CR fW fB fF fPa fSt fBl fFr fWe fRo fNx fPr fEr : Addr} {fd fdB fdF fdPa fdSt fdBl fdFr fdWe fdRo fdNx fdPr fdEr : FuncData}
theorem scAppendM : FnScope ["self","record","is_copy","block","page"] ["self","record","is_copy"] (defScope (cL 1)) := ⟨rfl, rfl, rfl, by decide +kernel, rfl, by decide +kernel, by decide +kernel⟩
theorem ok_appendM (F : Fun K "append" "Log.append" (cL 1) f fd) (T : FT K mg C CN CP CS fW fB) (Y : LT K mg CL) (Z : LE K mg CB CR CS) (GF : Def P wd K mg base CX0 "first_erased" 1 ["pages"] spFirst fF fdF)
    (GO : MDef P wd K mg base CX0 CL "room" 7 ["self","is_copy"] (spRoom C CL) fRo fdRo) (GN : MDef P wd K mg base CX0 CL "_next_block" 7 ["self"] (spNext C CL) fNx fdNx) (GP : MDef P wd K mg base (L2.CX P wd) C "program" 5 ["self", "block", "page", "record"] (spProg K C CN CP) fPr fdPr) : FnOk P wd K mg base (L2.CX P wd) 8 f fd ["self","record","is_copy"] (spAppend C CL CR CP) := by
  refine F.okX scAppendM (fun vs H Q E h => ?_) (fun cdv A outer s H vs Q E hr h => ?_)
  · obtain ⟨fl, w, c, as, ws, lg, c2, as2, ps, rm, rv, cp, rfl, _⟩ := h
    rfl
  · obtain ⟨fl, w, c, as, ws, lg, c2, as2, ps, rm, rv, cp, rfl, W, hrm, hrv, k0, kp, k1⟩ := h
    have hr1 : Room 1 _ := hr.mono (by decide)
    have hr5 : Room 5 _ := hr.mono (by decide)
    refine ⟨_, (pss_cons (ps_if (pt_cmpR op_eq (pe_meth (pv 0) Y.cl GO.me GO.ok hr GO.bd .nil pass0 (pa_cons (pv 2) pa_nil)) pe_int (nomark _))
      (pss_one (ps_noRoom Z rfl (takes_of rfl rfl rfl rfl) (by rfl))) pss_nil)
      (pss_cons (ps_set (i := 3) scAppendM.nd rfl (Or.inl rfl) (pe_meth0 (pv 0) Y.cl GN.me GN.ok hr GN.bd .nil pass0))
      (pss_cons (ps_set (i := 4) scAppendM.nd rfl (Or.inl rfl) (pe_call GF.ok hr1 (by rfl) GF.mg GF.kp GF.bd .nil pass0 (pa_cons (pe_ix ix_list (pe_fld (pv 0) rfl) (pv 3) (fun _ _ => rfl)) pa_nil)))
      (pss_cons (ps_expr (pe_meth (pe_fld (pv 0) rfl) T.cl GP.me GP.ok hr5 GP.bd .nil (passX (E := E) (takes_of rfl rfl rfl rfl) (fun _ _ _ _ z => z)) (pa_cons (pv 3) (pa_cons (pv 4) (pa_cons (pv 1) pa_nil)))))
      (pss_one (ps_asg (pv 1) (pg_sub (pe_ix ix_list (pe_fld (pv 0) rfl) (pv 3) (fun _ _ => rfl)) (pv 4) set_list))))))), ?_⟩
    have L := W.lo
    obtain ⟨dx, hob⟩ := id L.ob
    refine ⟨_, rfl, lg, dx, _, rfl, hob, lf_no (by decide +kernel), _, rfl, lg, fl, c2, as2, ps, cp, rfl, L, fun H1 s1 => ⟨rfl, _, rfl, ?_⟩⟩
    by_cases e0 : roomM ps cp = 0
    · rw [decide_eq_true (show V.int (roomM ps cp) = V.int 0 by rw [e0])]
      exact iteT (k0 e0 H1 s1)
    rw [decide_eq_false (show ¬ V.int (roomM ps cp) = V.int 0 from fun z => e0 (V.int.inj z))]
    refine iteF ?_
    refine ⟨_, rfl, lg, dx, _, rfl, s1 _ _ hob, lf_no (by decide +kernel), fl, w, c, as, ws, lg, c2, as2, ps, rm, rfl, W.same s1, room_some e0, fun H2 s2 hb hb8 => ?_⟩
    have s12 := s1.trans s2
    have W2 := W.same s12
    have hob2 := s12 _ _ hob
    have hvs : ps[nextM ws ps]? = some ps[nextM ws ps] := List.getElem?_eq_getElem hb
    have hl8 := hb8 _ hvs
    obtain ⟨a, ha, hrow⟩ := W2.lo.gr.at hvs
    have eg : ps.getD (nextM ws ps) [] = ps[nextM ws ps] := by rw [List.getD_eq_getElem?_getD, hvs]; rfl
    have k1' := k1 e0
    have kp' := kp e0
    unfold addM at k1'
    rw [eg] at k1' kp'
    generalize hxs : ps[nextM ws ps] = xs at *
    generalize nextM ws ps = b at *
    obtain ⟨t, ts, rfl, ht, hts⟩ := hrv
    have ht2 := s12 _ _ ht
    obtain ⟨dxf, hfo⟩ := id W2.fa.ob
    refine ⟨_, rfl, lg, CL, dx, _, _, rfl, hob2, Y.cl, Y.nc, lf_contents, _, rfl, c2, _, _, _, rfl, rfl, SqL.of W2.lo.gr.ls, atI_nat (get_map ha), a, xs, rfl, hrow, W2.lo.pg _ (List.mem_of_getElem? hvs), ?_⟩
    have ty : TyX K H2 (.ref t) (.type "tuple") := .base (.tup ht2)
    refine ⟨_, rfl, lg, CL, dx, _, _, rfl, hob2, Y.cl, Y.nf, lf_flash, fl, dxf, _, rfl, hfo, ff_no (by decide +kernel), _, rfl, _, rfl, _, rfl, fl, w, c, as, ws, ps, true, rm, .non, _, _, .ref t, _, true, rfl, W2.fa, hrm, ty, kit_tt, fun hn => absurd ⟨⟨by omega, by omega⟩, ⟨by omega, by omega⟩, rfl, b, xs, rfl, hvs, rfl⟩ hn, fun j vs ej hv _ _ _ => ?_⟩
    have : j = b := by omega
    subst this
    rw [hvs] at hv; cases hv
    refine ⟨fun z => (by cases z), fun _ z t' H3 ht' hH3 FA3 o3 t3 => kp' z t' H3 (s12.free ht') hH3 FA3 (fun x o hx hn => o3 _ _ (s12 _ _ hx) hn) (fun x ys hx => t3 _ _ (s12 _ _ hx)), fun _ hne H3 FA3 o3 t3 => .inr ⟨xs, hvs, rfl, hl8, .inr ⟨t, ts, rfl, t3 _ _ ht2, hts⟩, fun H4 FA4 o4 t4 => ?_⟩⟩
    have o24 : Off (fl :: w :: c :: as) H2 H4 := off_trans (off_sub o3 fun x hx => by rw [List.mem_singleton.mp hx]; exact List.mem_cons_self) o4
    have t24 := t3.trans t4
    have nlg := row_at W2
    have hob4 := o24 _ _ hob2 nlg
    have hc4 := o24 _ _ W2.lo.gr.ls W2.n2
    have ham := List.mem_of_getElem? ha
    have hrow4 := o24 _ _ hrow (W2.n3 a ham)
    refine ⟨_, rfl, _, rfl, lg, CL, dx, _, _, rfl, hob4, Y.cl, Y.nc, lf_contents, _, rfl, c2, _, _, _, rfl, rfl, SqL.of hc4, atI_nat (get_map ha), _, rfl, a, _, _, xs.length, rfl, rfl, hrow4, Evl.ixN_nat (by rw [row_len (by omega)]; exact hl8), ?_⟩
    rw [row_set hl8]
    have t5 : Tups H4 (upd H4 a (.lst (row (xs ++ [V.ref t])))) := Tups.lst hrow4
    have o5 : Off [a] H4 (upd H4 a (.lst (row (xs ++ [V.ref t])))) := off_upd (List.mem_singleton.mpr rfl)
    have FA5 := FA4.off o5 t5 (fun x hx hm => W2.n3 a ham (by rw [← List.mem_singleton.mp hm]; exact hx))
    have t25 := t24.trans t5
    refine k1' hne _ ⟨FA5, ⟨⟨dx, ?_⟩, ?_, ?_, FA5.blk, by rw [List.length_set]; exact L.le⟩, W2.n1, W2.n2, W2.n3⟩ ?_ (fun x ys hx => t25 _ _ (s12 _ _ hx))
    · rw [upd_ne (ne_of hob4 hrow4 (by intro z; cases z))]; exact hob4
    · have g4 : Grid H4 c2 as2 ps := W2.lo.gr.keep (fun o ho => o24 _ _ ho W2.n2) (fun x hx o ho => o24 _ _ ho (W2.n3 x hx))
      exact g4.prog ha upd_same fun x o hx ho => by rw [upd_ne hx]; exact ho
    · exact FA5.pg
    · refine off_trans (off_same s12) (off_trans (off_sub o24 fun x hx => ?_) (off_sub o5 fun x hx => ?_))
      · unfold own
        simp only [List.mem_cons, List.mem_append] at hx ⊢
        rcases hx with h | h | h | h
        · exact .inl h
        · exact .inr (.inl h)
        · exact .inr (.inr (.inl h))
        · exact .inr (.inr (.inr (.inr (.inl h))))
      · rw [List.mem_singleton.mp hx]
        unfold own
        simp only [List.mem_cons, List.mem_append]
        exact .inr (.inr (.inr (.inr (.inr ham))))
theorem scEraseM : FnScope ["self","block"] ["self","block"] (defScope (cL 3)) := ⟨rfl, rfl, rfl, by decide +kernel, rfl, by decide +kernel, by decide +kernel⟩
theorem ok_eraseM (F : Fun K "erase" "Log.erase" (cL 3) f fd) (T : FT K mg C CN CP CS fW fB) (Y : LT K mg CL)
    (GS : MDef P wd K mg base (L2.CX P wd) CL "state" 4 ["self", "block"] (spState C CL CN) fSt fdSt) (GE : MDef P wd K mg base (L2.CX P wd) C "erase" 4 ["self", "block"] (spErase C CN CP) fEr fdEr) : FnOk P wd K mg base (L2.CX P wd) 5 f fd ["self","block"] (spEraseM C CL CN CP) := by
  obtain ⟨tk, hpag⟩ := T.pag
  refine F.okX scEraseM (fun vs H Q E h => ?_) (fun cdv A outer s H vs Q E hr h => ?_)
  · obtain ⟨fl, w, c, as, ws, lg, c2, as2, ps, rm, b, rfl, _⟩ := h
    rfl
  · obtain ⟨fl, w, c, as, ws, lg, c2, as2, ps, rm, b, rfl, W, hrm, k0, k1⟩ := h
    refine ⟨_, (pss_cons (ps_if (pt_cmpR op_ne (pe_meth (pv 0) Y.cl GS.me GS.ok hr GS.bd .nil (passX (E := E) (takes_of rfl rfl rfl rfl) (fun _ _ _ _ z => z)) (pa_cons (pv 1) pa_nil)) pe_str (nomark _))
      (pss_one (ps_notValid T rfl (takes_of rfl rfl rfl rfl) (by rfl))) pss_nil)
      (pss_cons (ps_expr (pe_meth (pe_fld (pv 0) rfl) T.cl GE.me GE.ok hr GE.bd .nil (passX (E := E) (takes_of rfl rfl rfl rfl) (fun _ _ _ _ z => z)) (pa_cons (pv 1) pa_nil)))
      (pss_one (ps_asg (pe_op op_rep (pe_lst (pa_cons pe_non pa_nil)) (pe_glob (v := .int 8) (by rfl) hpag ⟨_, rfl⟩)) (pg_sub (pe_fld (pv 0) rfl) (pv 1) set_list))))), ?_⟩
    have L := W.lo
    obtain ⟨dx, hob⟩ := id L.ob
    refine ⟨_, rfl, lg, dx, _, rfl, hob, lf_no (by decide +kernel), _, rfl, lg, fl, c2, as2, ps, b, rfl, L, fun j xs ej hx H1 s1 => ?_, fun hn => k0 (fun j xs ej hx => ?_) H (Same.refl H)⟩
    rotate_left
    · exact absurd ⟨by omega, by have := (List.getElem?_eq_some_iff.mp hx).1; omega⟩ hn
    refine ⟨rfl, _, rfl, ?_⟩
    by_cases hcl : stS xs.length = "closed"
    rotate_left
    · rw [decide_eq_false (show ¬ V.str (stS xs.length) = V.str "closed" from fun z => hcl (by injection z))]
      refine iteT (k0 (fun j' xs' ej' hx' => ?_) H1 s1)
      have : j' = j := by omega
      subst this
      rw [hx] at hx'; cases hx'; exact hcl
    rw [decide_eq_true (show V.str (stS xs.length) = V.str "closed" by rw [hcl])]
    refine iteF ?_
    subst ej
    have hj : j < ps.length := (List.getElem?_eq_some_iff.mp hx).1
    have W1 := W.same s1
    have hlw := W.fa.lw
    have hwv : ws[j]? = some ws[j] := List.getElem?_eq_getElem (by omega)
    obtain ⟨kp', k1'⟩ := k1 j xs ws[j] rfl hx hcl hwv
    obtain ⟨dxf, hfo⟩ := id W1.fa.ob
    have hob1 := s1 _ _ hob
    refine ⟨_, rfl, lg, CL, dx, _, _, rfl, hob1, Y.cl, Y.nf, lf_flash, fl, dxf, _, rfl, hfo, ff_no (by decide +kernel), _, rfl, fl, w, c, as, ws, ps, true, rm, .non, _, rfl, W1.fa, hrm, fun hn => absurd ⟨by omega, by omega⟩ hn, fun j' ej' _ => ?_⟩
    have : j' = j := by omega
    subst this
    refine ⟨fun z => (by cases z), fun _ z t' H3 ht' hH3 FA3 o3 t3 => kp' z t' H3 (s1.free ht') hH3 FA3 (fun x o hx hn => o3 _ _ (s1 _ _ hx) hn) (fun x ys hx => t3 _ _ (s1 _ _ hx)), fun _ hne H3 FA3 o3 t3 => .inl ⟨rfl, .inl rfl, fun q H4 wv hq hw FA4 o4 t4 => ?_⟩⟩
    rw [hwv] at hw; cases hw
    have o14 : Off (fl :: w :: c :: as) H1 H4 := off_trans (off_sub o3 fun x hx => by rw [List.mem_singleton.mp hx]; exact List.mem_cons_self) o4
    have t14 := t3.trans t4
    have nlg := row_at W1
    have hob4 := o14 _ _ hob1 nlg
    have hc4 := o14 _ _ W1.lo.gr.ls W1.n2
    have era0 : era V.non = [] := if_pos rfl
    rw [era0] at FA4
    have g4 : Grid H4 c2 as2 ps := W1.lo.gr.keep (fun o ho => o14 _ _ ho W1.n2) (fun x hx o ho => o14 _ _ ho (W1.n3 x hx))
    refine ⟨by show 1 ≤ sizeLine; decide, fun l hl => ⟨l, 8, [.non], rfl, rfl, upd_same, by decide, by decide, by show 8 ≤ sizeLine; decide, fun q2 hq2 => ?_⟩⟩
    rw [row_nil]
    have s5 := (same_new (o := .lst [V.non]) hl).trans (same_new (o := .lst (row [])) hq2)
    have hq4 : H4 q2 = Option.none := (same_new hl).free hq2
    have g5 := g4.same s5
    have hq5 : upd (upd H4 l (.lst [V.non])) q2 (.lst (row [])) q2 = some (.lst (row [])) := upd_same
    have hob5 := s5 _ _ hob4
    have FA5 := FA4.same' s5
    have new5 : ∀ x ∈ fl :: w :: c :: as.set j' q, x ≠ q2 := fun x hx e => by
      rw [e] at hx
      rcases List.mem_cons.mp hx with z | hx
      · obtain ⟨d4, h4⟩ := FA4.ob
        rw [← z, hq4] at h4; cases h4
      rcases List.mem_cons.mp hx with z | hx
      · have h4 := FA4.wl
        rw [← z, hq4] at h4; cases h4
      rcases List.mem_cons.mp hx with z | hx
      · have h4 := FA4.gr.ls
        rw [← z, hq4] at h4; cases h4
      obtain ⟨i, hi⟩ := List.getElem?_of_mem hx
      have hl4 := FA4.gr.len
      have hi' := (List.getElem?_eq_some_iff.mp hi).1
      have h4 := FA4.gr.rows i q2 _ hi (List.getElem?_eq_getElem (by omega))
      rw [hq4] at h4; cases h4
    have off14 : Off (own fl w c c2 as as2) H1 H4 := off_sub o14 fun x hx => by
      unfold own
      simp only [List.mem_cons, List.mem_append] at hx ⊢
      rcases hx with h | h | h | h
      · exact .inl h
      · exact .inr (.inl h)
      · exact .inr (.inr (.inl h))
      · exact .inr (.inr (.inr (.inr (.inl h))))
    generalize upd (upd H4 l (.lst [V.non])) q2 (.lst (row [])) = H5 at s5 g5 hq5 hob5 FA5 ⊢
    have hjl : j' < as2.length := by rw [g5.len]; exact hj
    refine ⟨_, rfl, lg, CL, dx, _, _, rfl, hob5, Y.cl, Y.nc, lf_contents, _, rfl, c2, _, _, j', rfl, rfl, g5.ls, Evl.ixN_nat (by rw [List.length_map]; exact hjl), ?_⟩
    have hset : (as2.map V.ref).set j' (V.ref q2) = (as2.set j' q2).map V.ref := by rw [List.map_set]
    rw [hset]
    have ncq : c2 ≠ q2 := ne_of_none hc4 hq4
    have t6 : Tups H5 (upd H5 c2 (.lst ((as2.set j' q2).map V.ref))) := Tups.lst g5.ls
    have o6 : Off [c2] H5 (upd H5 c2 (.lst ((as2.set j' q2).map V.ref))) := off_upd (List.mem_singleton.mpr rfl)
    have qset : ∀ x ∈ as.set j' q, x ∈ as ∨ x = q := fun x hx => List.mem_or_eq_of_mem_set hx
    have q2set : ∀ x ∈ as2.set j' q2, x ∈ as2 ∨ x = q2 := fun x hx => List.mem_or_eq_of_mem_set hx
    have hqH1 : H1 q = Option.none := by
      cases e : H1 q with
      | none => rfl
      | some o =>
        by_cases z : q = fl
        · obtain ⟨d3, h3⟩ := FA3.ob
          rw [← z, hq] at h3; cases h3
        · have := o3 _ _ e (by simpa using z)
          rw [hq] at this; cases this
    have n2' : c2 ∉ fl :: w :: c :: as.set j' q := fun m => by
      rcases List.mem_cons.mp m with z | m
      · exact W1.n2 (by rw [z]; exact List.mem_cons_self)
      rcases List.mem_cons.mp m with z | m
      · exact W1.n2 (by rw [z]; exact List.mem_cons_of_mem _ List.mem_cons_self)
      rcases List.mem_cons.mp m with z | m
      · exact W1.n2 (by rw [z]; exact List.mem_cons_of_mem _ (List.mem_cons_of_mem _ List.mem_cons_self))
      rcases qset _ m with z | z
      · exact W1.n2 (List.mem_cons_of_mem _ (List.mem_cons_of_mem _ (List.mem_cons_of_mem _ z)))
      · have := W1.lo.gr.ls
        rw [z, hqH1] at this; cases this
    have FA6 := FA5.off o6 t6 (fun x hx hm => n2' (by rw [← List.mem_singleton.mp hm]; exact hx))
    refine k1' hne (as.set j' q) (as2.set j' q2) _ ⟨FA6, ⟨⟨dx, ?_⟩, ?_, FA6.pg, FA6.blk, by rw [List.length_set]; exact L.le⟩, W1.n1, n2', fun x hx => ?_⟩ ?_ (fun x ys hx => t6 _ _ (s5 _ _ (t14 _ _ (s1 _ _ hx)))) fun x hx => ?_
    · rw [upd_ne (ne_of hob5 g5.ls (by intro z; cases z))]; exact hob5
    · refine g4.swap hq4 upd_same (by rw [upd_ne ncq.symm]; exact hq5) fun y hy o ho => ?_
      rw [upd_ne (fun (e : y = c2) => g4.nc (by rw [← e]; exact hy))]; exact s5 _ _ ho
    · rcases q2set x hx with z | z
      · intro m
        rcases List.mem_cons.mp m with y | m
        · exact W1.n3 x z (by rw [y]; exact List.mem_cons_self)
        rcases List.mem_cons.mp m with y | m
        · exact W1.n3 x z (by rw [y]; exact List.mem_cons_of_mem _ List.mem_cons_self)
        rcases List.mem_cons.mp m with y | m
        · exact W1.n3 x z (by rw [y]; exact List.mem_cons_of_mem _ (List.mem_cons_of_mem _ List.mem_cons_self))
        rcases qset _ m with y | y
        · exact W1.n3 x z (List.mem_cons_of_mem _ (List.mem_cons_of_mem _ (List.mem_cons_of_mem _ y)))
        · obtain ⟨i, hi⟩ := List.getElem?_of_mem z
          have hi' := (List.getElem?_eq_some_iff.mp hi).1
          have hl2 := W1.lo.gr.len
          have := W1.lo.gr.rows i x _ hi (List.getElem?_eq_getElem (by omega))
          rw [y, hqH1] at this; cases this
      · rw [z]
        exact fun m => new5 _ m rfl
    · refine off_trans (off_same s1) (off_trans off14 (off_trans (off_same s5) (off_sub o6 fun x hx => ?_)))
      rw [List.mem_singleton.mp hx]
      unfold own
      exact List.mem_cons_of_mem _ (List.mem_cons_of_mem _ (List.mem_cons_of_mem _ List.mem_cons_self))
    · have free : ∀ y, H1 y = Option.none → H y = Option.none := fun y hy => s1.free hy
      unfold own at hx ⊢
      simp only [List.mem_cons, List.mem_append] at hx ⊢
      rcases hx with h | h | h | h | h | h
      · exact .inl (.inl h)
      · exact .inl (.inr (.inl h))
      · exact .inl (.inr (.inr (.inl h)))
      · exact .inl (.inr (.inr (.inr (.inl h))))
      · rcases qset _ h with z | z
        · exact .inl (.inr (.inr (.inr (.inr (.inl z)))))
        · exact .inr (by rw [z]; exact free _ hqH1)
      · rcases q2set _ h with z | z
        · exact .inl (.inr (.inr (.inr (.inr (.inr z)))))
        · rw [z]
          by_cases m : q2 ∈ fl :: w :: c :: as
          · refine .inl ?_
            simp only [List.mem_cons] at m
            rcases m with h | h | h | h
            · exact .inl h
            · exact .inr (.inl h)
            · exact .inr (.inr (.inl h))
            · exact .inr (.inr (.inr (.inr (.inl h))))
          · refine .inr (free _ ?_)
            cases e : H1 q2 with
            | none => rfl
            | some o =>
              have := o14 _ _ e m
              rw [hq4] at this; cases this
end
end Sg

set_option Elab.async false
set_option linter.all false
set_option maxRecDepth 100000
set_option maxHeartbeats 4000000
namespace Sg
open PySem PySem.Spec PyProof.Rows L2
/-- values of a range -/
theorem lc_rngV {σ : L2.St} {H1 : Hp} {D : Addr} {vs : List Nat} {j n : Nat} {te : TE} {Qd : Hp → Prop} (ys : List V) (hy : ys.length = n) (hD : H1 D = Option.none) (hw : ∀ x, wipe ((wipe σ vs).set j (some x)) vs = wipe σ vs) (hz : n ≤ 1000)
    (he : ∀ (i : Nat) (y : V) (H' : Hp) (Q' : VK), ys[i]? = some y → Same H1 H' → (∀ H'', Same H' H'' → Q' y H'') → te ((wipe σ vs).set j (some (.int (0 + (i : Int))))) H' Q')
    (hd : ∀ H', Same H1 H' → H' D = some (.lst ys) → Qd H') :
    ∃ W : Nat → Nat → Hp → Prop, (∃ m, W 0 m (upd H1 D (.lst []))) ∧ ∀ i m H, W i m H →
      ((Itr 0 n).stop i H ∧ Qd H) ∨ ((Itr 0 n).go i H ∧ ∃ Nx : Hp → Prop, (∀ H', Nx H' → ∃ m', m' < m ∧ W (i + 1) m' H') ∧ ∀ x H', (Itr 0 n).yld i H x H' → gName j x (wipe σ vs) H' fun σ2 H2 => wipe σ2 vs = wipe σ vs ∧ tYes σ2 H2 fun b H3 =>
        if b = true then te σ2 H3 fun y H4 => ∃ acc, H4 D = some (.lst acc) ∧ acc.length < sizeLine ∧ Nx (upd H4 D (.lst (acc ++ [y]))) else Nx H3) := by
  refine lc_range (lo := 0) (n := n) (fun i H' => i ≤ n ∧ Same H1 H' ∧ H' D = some (.lst (ys.take i))) ⟨Nat.zero_le _, same_new hD, by rw [List.take_zero]; exact upd_same⟩ ?_ ?_
  · rintro i H' hi ⟨_, sm, hDl⟩
    have hyi : ys[i]? = some ys[i] := List.getElem?_eq_getElem (by omega)
    refine ⟨hw _, yesIte (he i _ H' _ hyi sm fun H'' s2 => ⟨_, s2 _ _ hDl, small1000 (by rw [List.length_take]; omega), by omega, ?_, ?_⟩)⟩
    · intro y o hy'
      rw [upd_ne (ne_of_none hy' hD)]
      exact s2 _ _ (sm _ _ hy')
    · rw [upd_same, List.take_add_one, hyi]; rfl
  · rintro H' ⟨_, sm, hDl⟩
    exact hd H' sm (by rw [← hy, List.take_length] at hDl; exact hDl)
/-- new rows of a range -/
theorem lc_rngN {σ : L2.St} {H1 : Hp} {D : Addr} {vs : List Nat} {j n : Nat} {te : TE} {Qd : Hp → Prop} (ps : List (List V)) (hp : ps.length = n) (hD : H1 D = Option.none) (hw : ∀ x, wipe ((wipe σ vs).set j (some x)) vs = wipe σ vs) (hz : n ≤ 100)
    (he : ∀ (i : Nat) (xs : List V) (H' : Hp) (Q' : VK), ps[i]? = some xs → Same H1 H' → (∀ l H'', H' l = Option.none → Same H' H'' → H'' l = some (.lst (row xs)) → Q' (.ref l) H'') → te ((wipe σ vs).set j (some (.int (0 + (i : Int))))) H' Q')
    (hd : ∀ H' as, Same H1 H' → Grid H' D as ps → (∀ a ∈ as, H1 a = Option.none) → Qd H') :
    ∃ W : Nat → Nat → Hp → Prop, (∃ m, W 0 m (upd H1 D (.lst []))) ∧ ∀ i m H, W i m H →
      ((Itr 0 n).stop i H ∧ Qd H) ∨ ((Itr 0 n).go i H ∧ ∃ Nx : Hp → Prop, (∀ H', Nx H' → ∃ m', m' < m ∧ W (i + 1) m' H') ∧ ∀ x H', (Itr 0 n).yld i H x H' → gName j x (wipe σ vs) H' fun σ2 H2 => wipe σ2 vs = wipe σ vs ∧ tYes σ2 H2 fun b H3 =>
        if b = true then te σ2 H3 fun y H4 => ∃ acc, H4 D = some (.lst acc) ∧ acc.length < sizeLine ∧ Nx (upd H4 D (.lst (acc ++ [y]))) else Nx H3) := by
  refine lc_range (lo := 0) (n := n) (fun i H' => i ≤ n ∧ Same H1 H' ∧ ∃ as : List Addr, H' D = some (.lst (as.map V.ref)) ∧ as.length = i ∧ as.Nodup ∧ D ∉ as ∧ (∀ a ∈ as, H1 a = Option.none) ∧ ∀ (k : Nat) (a : Addr) (xs : List V), as[k]? = some a → ps[k]? = some xs → H' a = some (.lst (row xs)))
    ⟨Nat.zero_le _, same_new hD, [], upd_same, rfl, List.nodup_nil, by simp, by simp, fun k a xs h => by simp at h⟩ ?_ ?_
  · rintro i H' hi ⟨_, sm, as, hDl, hl, nd, nD, fr, rows⟩
    have hpi : ps[i]? = some ps[i] := List.getElem?_eq_getElem (by omega)
    refine ⟨hw _, yesIte (he i _ H' _ hpi sm fun l H'' hl' s2 hrow => ⟨_, s2 _ _ hDl, small1000 (by rw [List.length_map]; omega), by omega, ?_, as ++ [l], ?_, ?_, ?_, ?_, ?_, ?_⟩)⟩
    · intro y o hy'
      rw [upd_ne (ne_of_none hy' hD)]
      exact s2 _ _ (sm _ _ hy')
    · rw [upd_same, List.map_append]; rfl
    · rw [List.length_append, hl]; rfl
    · rw [List.nodup_append]
      refine ⟨nd, by simp, fun a ha b hb => ?_⟩
      rw [List.mem_singleton.mp hb]
      obtain ⟨k, hk⟩ := List.getElem?_of_mem ha
      have hk' := (List.getElem?_eq_some_iff.mp hk).1
      exact ne_of_none (rows k a _ hk (List.getElem?_eq_getElem (show k < ps.length by omega))) hl'
    · intro m
      rcases List.mem_append.mp m with m | m
      · exact nD m
      · exact ne_of_none hDl hl' (List.mem_singleton.mp m)
    · intro a ha
      rcases List.mem_append.mp ha with m | m
      · exact fr a m
      · rw [List.mem_singleton.mp m]; exact sm.free hl'
    · intro k a xs ha hx
      have keepD : ∀ b, b ≠ D → ∀ o, H'' b = some o → upd H'' D (.lst (as.map V.ref ++ [V.ref l])) b = some o := fun b hb o ho => by rw [upd_ne hb]; exact ho
      by_cases hki : k < as.length
      · rw [List.getElem?_append_left hki] at ha
        exact keepD a (fun e => nD (by rw [← e]; exact List.mem_of_getElem? ha)) _ (s2 _ _ (rows k a xs ha hx))
      · have hk2 : k = as.length := by
          have := (List.getElem?_eq_some_iff.mp ha).1
          rw [List.length_append, List.length_singleton] at this
          omega
        subst hk2
        rw [List.getElem?_append_right (Nat.le_refl _), Nat.sub_self] at ha
        have : l = a := by simpa using ha
        subst this
        rw [hl, hpi] at hx; cases hx
        exact keepD l (fun e => ne_of_none hDl hl' e.symm) _ hrow
  · rintro H' ⟨_, sm, as, hDl, hl, nd, nD, fr, rows⟩
    exact hd H' as sm ⟨hDl, by omega, nd, nD, rows⟩ fr
theorem lf_new {fl c : Addr} : putF "_contents" (.ref c) (putF "flash" (.ref fl) []) = lf fl c := put_past (by decide +kernel)
def spReadBlk (C : Addr) : Sp := fun vs H Q _ => ∃ fl w c as ws ps b, vs = [.ref fl, .int b] ∧ FlashAt C H fl w c as ws ps true .non .non ∧ ∃ (j : Nat) (xs : List V), b = (j : Int) ∧ ps[j]? = some xs ∧ ∀ l H', H l = Option.none → Same H H' → H' l = some (.lst (row xs)) → Q (.ref l) H'
def spLInit (C CL CB : Addr) : Sp := fun vs H Q E => ∃ fl w c as ws ps lg dx, vs = [.ref lg, .ref fl] ∧ H lg = some (.ins CL dx []) ∧ lg ≠ fl ∧ FlashAt C H fl w c as ws ps true .non .non ∧ ps.length ≤ 100 ∧
  ((blks ps "open").length ≤ 1 → ∀ c2 as2 H', WL C CL H' fl w c as ws lg c2 as2 ps .non → Off [lg] H H' → Tups H H' → (∀ a ∈ c2 :: as2, H a = Option.none) → Q .non H') ∧
  (¬ (blks ps "open").length ≤ 1 → ∀ H', Off [lg] H H' → Tups H H' → E (.ref CB) Option.none H')
section
variable {P : Program} {wd : World} {K : PySem.W.Frag} {mg : Str → Option Value} {base : Heap} {f C CL CN CP CS CB CR fW fB fF fPa fSt fBl fFr fWe fRd fRb : Addr} {fd fdB fdF fdPa fdSt fdBl fdFr fdWe fdRd fdRb : FuncData}
theorem scReadBlk : FnScope ["flash","block","page"] ["flash","block"] (defScope sReadBlk) := ⟨rfl, rfl, rfl, by decide +kernel, rfl, by decide +kernel, by decide +kernel⟩
theorem ok_readBlk (F : Fun K "_read_block" "_read_block" sReadBlk f fd) (T : FT K mg C CN CP CS fW fB) (GR : MDef P wd K mg base (L2.CX P wd) C "read" 5 ["self", "block", "page"] (spRead C CN CP) fRd fdRd) : FnOk P wd K mg base CX0 6 f fd ["flash","block"] (spReadBlk C) := by
  obtain ⟨tk, hpag⟩ := T.pag
  refine F.ok scReadBlk (fun vs H Q E h => ?_) (fun cdv A outer s H vs Q E hr h => ?_)
  · obtain ⟨fl, w, c, as, ws, ps, b, rfl, _⟩ := h
    rfl
  · obtain ⟨fl, w, c, as, ws, ps, b, rfl, FA, j, xs, rfl, hx, k1⟩ := h
    refine ⟨_, (pss_one (ps_ret (pe_lc (own := [("page", 2)]) (g := gName 2) (tt := tYes) (te := tMeth C "read" (spRead C CN CP) [] E0 (tVar 0) (tCons (tVar 1) (tCons (tVar 2) tNil))) (by rfl) scReadBlk.nd (pi_range1 (by rfl) T.bt.range (pa_cons (pe_glob (v := .int 8) (by rfl) hpag ⟨_, rfl⟩) pa_nil)) (blkOk_by (own := [("page", 2)]) (N := ["flash", "block", "page"]) (sc := defScope sReadBlk) (by decide +kernel)) (fun _ _ _ _ _ => pg_name (i := 2) scReadBlk.nd rfl (Or.inl rfl)) (fun _ _ _ _ _ => pts_nil) (fun _ _ _ _ _ => by exact (pe_meth (pv 0) T.cl GR.me GR.ok hr GR.bd .nil passL (pa_cons (pv 1) (pa_cons (pv 2) pa_nil))))))), ?_⟩
    obtain ⟨dxf, hfo⟩ := id FA.ob
    have h8 := (FA.pg xs (List.mem_of_getElem? hx)).1
    have hj := (List.getElem?_eq_some_iff.mp hx).1
    refine ⟨_, rfl, by decide, by decide, fun D hD => ?_⟩
    refine lc_rngV (n := (8 : Int).toNat) (row xs) (row_len h8) hD (fun _ => rfl) (by decide) (fun i y H' Q' hy sm q' => ?_) fun H' sm hDl => k1 D H' hD sm hDl
    have hi := (List.getElem?_eq_some_iff.mp hy).1
    rw [row_len h8] at hi
    refine ⟨_, rfl, fl, dxf, _, rfl, sm _ _ hfo, ff_no (by decide +kernel), _, rfl, _, rfl, fl, w, c, as, ws, ps, true, .non, .non, _, _, rfl, FA.same' sm, fun hn => absurd ⟨⟨by omega, by omega⟩, by omega, by omega⟩ hn, fun j' i' vs' v ej ei hx' hv => ⟨fun z => (by cases z), fun _ => ?_⟩⟩
    have e1 : j' = j := by omega
    have e2 : i' = i := by omega
    subst e1 e2
    rw [hx] at hx'; cases hx'
    rw [hy] at hv; cases hv
    exact q' H' (Same.refl H')
theorem scLInit : FnScope ["self","flash","block"] ["self","flash"] (defScope (cL 0)) := ⟨rfl, rfl, rfl, by decide +kernel, rfl, by decide +kernel, by decide +kernel⟩
theorem ok_linit (F : Fun K "__init__" "Log.__init__" (cL 0) f fd) (T : FT K mg C CN CP CS fW fB) (Y : LT K mg CL) (Z : LE K mg CB CR CS) (GR : Def P wd K mg base CX0 "_read_block" 6 ["flash","block"] (spReadBlk C) fRb fdRb) (GB : MDef P wd K mg base CX0 CL "_blocks_that_are" 5 ["self", "state"] (spBlks C CL) fBl fdBl) : FnOk P wd K mg base (L2.CX P wd) 7 f fd ["self","flash"] (spLInit C CL CB) := by
  refine F.okX scLInit (fun vs H Q E h => ?_) (fun cdv A outer s H vs Q E hr h => ?_)
  · obtain ⟨fl, w, c, as, ws, ps, lg, dx, rfl, _⟩ := h
    rfl
  · obtain ⟨fl, w, c, as, ws, ps, lg, dx, rfl, hob, nlf, FA, hle, k1, k2⟩ := h
    have hr5 : Room 5 _ := hr.mono (by decide)
    refine ⟨_, (pss_cons (ps_fld (pv 0) (pv 1) rfl)
      (pss_cons (ps_fld (pv 0) (pe_lc (own := [("block", 2)]) (g := gName 2) (tt := tYes) (te := tCall (spReadBlk C) [] E0 (tCons (tVar 1) (tCons (tVar 2) tNil))) (by rfl) scLInit.nd (pi_range1 (by rfl) T.bt.range (pa_cons (pe_fld (pv 1) rfl) pa_nil)) (blkOk_by (own := [("block", 2)]) (N := ["self", "flash", "block"]) (sc := defScope sLInit) (by decide +kernel)) (fun _ _ _ _ _ => pg_name (i := 2) scLInit.nd rfl (Or.inl rfl)) (fun _ _ _ _ _ => pts_nil) (fun _ _ _ _ _ => by exact (pe_call GR.ok hr (by rfl) GR.mg GR.kp GR.bd .nil pass0 (pa_cons (pv 1) (pa_cons (pv 2) pa_nil))))) rfl)
      (pss_one (ps_if (pt_cmpR op_gt (pe_callB call_len_seq (by rfl) T.bt.len PySem.boot_len (pa_cons (pe_meth (pv 0) Y.cl GB.me GB.ok hr5 GB.bd .nil pass0 (pa_cons pe_str pa_nil)) pa_nil)) pe_int (nomark _))
      (pss_one (ps_badFlash Z rfl (takes_of rfl rfl rfl rfl) (by rfl))) pss_nil)))), ?_⟩
    refine ⟨_, rfl, _, rfl, lg, CL, dx, [], rfl, hob, Y.cl, Y.nf, by show 0 < 1000; decide, ?_⟩
    have o1 : Off [lg] H (upd H lg (.ins CL dx (putF "flash" (.ref fl) []))) := off_upd (List.mem_singleton.mpr rfl)
    have t1 : Tups H (upd H lg (.ins CL dx (putF "flash" (.ref fl) []))) := Tups.ins hob
    have hob1 : upd H lg (.ins CL dx (putF "flash" (.ref fl) [])) lg = some (.ins CL dx (putF "flash" (.ref fl) [])) := upd_same
    have nfl : ∀ x ∈ fl :: w :: c :: as, x ∉ [lg] := fun x hx m => by
      rw [List.mem_singleton.mp m] at hx
      rcases List.mem_cons.mp hx with e | hx
      · exact nlf e
      rcases List.mem_cons.mp hx with e | hx
      · rw [e, FA.wl] at hob; cases hob
      rcases List.mem_cons.mp hx with e | hx
      · rw [e, FA.gr.ls] at hob; cases hob
      obtain ⟨i, hi⟩ := List.getElem?_of_mem hx
      have hl := FA.gr.len
      have hi' : i < ps.length := by rw [← hl]; exact (List.getElem?_eq_some_iff.mp hi).1
      rw [FA.gr.rows i lg _ hi (List.getElem?_eq_getElem hi')] at hob
      cases hob
    have FA1 := FA.off o1 t1 nfl
    generalize upd H lg (.ins CL dx (putF "flash" (.ref fl) [])) = H1 at o1 t1 hob1 FA1 ⊢
    obtain ⟨dxf, hfo⟩ := id FA1.ob
    refine ⟨_, rfl, fl, C, dxf, _, _, rfl, hfo, T.cl, T.n1, ff_blocks, _, rfl, by omega, by omega, fun D hD => ?_⟩
    rw [Int.toNat_natCast]
    refine lc_rngN ps rfl hD (fun _ => rfl) hle (fun i xs H' Q' hx sm q' => ?_) fun H2 as2 s2 g2 fr => ?_
    · exact ⟨_, rfl, _, rfl, fl, w, c, as, ws, ps, _, rfl, FA1.same' sm, i, xs, by omega, hx, fun l H'' hl s' hrow => q' l H'' hl s' hrow⟩
    have hob2 := s2 _ _ hob1
    refine ⟨_, rfl, lg, CL, dx, _, rfl, hob2, Y.cl, Y.nc, by show 1 < 1000; decide, ?_⟩
    rw [lf_new]
    have o3 : Off [lg] H2 (upd H2 lg (.ins CL dx (lf fl D))) := off_upd (List.mem_singleton.mpr rfl)
    have t3 : Tups H2 (upd H2 lg (.ins CL dx (lf fl D))) := Tups.ins hob2
    have hob3 : upd H2 lg (.ins CL dx (lf fl D)) lg = some (.ins CL dx (lf fl D)) := upd_same
    have frH : ∀ a, H1 a = Option.none → H a = Option.none := fun a ha => by
      cases e : H a with
      | none => rfl
      | some o =>
        by_cases z : a = lg
        · rw [z, hob1] at ha; cases ha
        · have := o1 _ _ e (by simpa using z)
          rw [ha] at this; cases this
    have hDlg : D ≠ lg := fun e => by rw [e, hob1] at hD; cases hD
    have alg : ∀ a ∈ as2, a ∉ [lg] := fun a ha m => by
      have := fr a ha
      rw [List.mem_singleton.mp m, hob1] at this; cases this
    have FA3 := (FA1.same' s2).off o3 t3 nfl
    have g3 : Grid (upd H2 lg (.ins CL dx (lf fl D))) D as2 ps := g2.keep (fun o ho => o3 _ _ ho (by simpa using hDlg)) fun a ha o ho => o3 _ _ ho (alg a ha)
    have own1 : ∀ x ∈ fl :: w :: c :: as, ∃ o, H1 x = some o := fun x hx => by
      rcases List.mem_cons.mp hx with e | hx
      · exact ⟨_, by rw [e]; exact hfo⟩
      rcases List.mem_cons.mp hx with e | hx
      · exact ⟨_, by rw [e]; exact FA1.wl⟩
      rcases List.mem_cons.mp hx with e | hx
      · exact ⟨_, by rw [e]; exact FA1.gr.ls⟩
      obtain ⟨i, hi⟩ := List.getElem?_of_mem hx
      have hl := FA1.gr.len
      have hi' : i < ps.length := by rw [← hl]; exact (List.getElem?_eq_some_iff.mp hi).1
      exact ⟨_, FA1.gr.rows i x _ hi (List.getElem?_eq_getElem hi')⟩
    have W : WL C CL (upd H2 lg (.ins CL dx (lf fl D))) fl w c as ws lg D as2 ps .non := by
      refine ⟨FA3, ⟨⟨dx, hob3⟩, g3, FA3.pg, FA3.blk, hle⟩, nlf, fun m => ?_, fun a ha m => ?_⟩
      · obtain ⟨o, ho⟩ := own1 _ m
        rw [hD] at ho; cases ho
      · obtain ⟨o, ho⟩ := own1 _ m
        rw [fr a ha] at ho; cases ho
    have o13 : Off [lg] H (upd H2 lg (.ins CL dx (lf fl D))) := off_trans o1 (off_trans (off_same s2) o3)
    have t13 : Tups H (upd H2 lg (.ins CL dx (lf fl D))) := t1.trans ((same_tups s2).trans t3)
    generalize upd H2 lg (.ins CL dx (lf fl D)) = H3 at hob3 W o13 t13 ⊢
    refine ⟨_, rfl, lg, dx, _, rfl, hob3, lf_no (by decide +kernel), _, fl, D, as2, ps, _, rfl, W.lo, fun l H4 hl s4 hi => ⟨l, _, rfl, .inl (SqL.of hi), _, _, rfl, rfl, _, rfl, ?_⟩⟩
    rw [List.length_map]
    by_cases h1 : (blks ps "open").length ≤ 1
    · rw [decide_eq_false (show ¬ (1 : Int) < ((blks ps "open").length : Int) by omega)]
      refine iteF (k1 h1 D as2 H4 (W.same s4) (off_trans o13 (off_same s4)) (t13.trans (same_tups s4)) fun a ha => frH a ?_)
      rcases List.mem_cons.mp ha with e | ha
      · rw [e]; exact hD
      · exact fr a ha
    · rw [decide_eq_true (show (1 : Int) < ((blks ps "open").length : Int) by omega)]
      exact iteT (k2 h1 H4 (off_trans o13 (off_same s4)) (t13.trans (same_tups s4)))
end
end Sg

set_option Elab.async false
set_option linter.all false
set_option maxRecDepth 100000
set_option maxHeartbeats 4000000
/-! [y for x in xs for y in ys(x) if ..] over lists -/
namespace Sg
open PySem PySem.Spec PyProof.Rows L2
theorem lc2_flat {K : PySem.W.Frag} {σ : L2.St} {H1 : Hp} {D a : Addr} {vs : List Nat} {j j1 : Nat} {xs : List V} {wi1 : TI} {tt1 : TT} {te : TE} {Qd : Hp → Prop} (yss : List (List V)) (f : V → Bool) (hlen : yss.length = xs.length) (hD : H1 D = Option.none) (hx : SqL K H1 a xs)
    (hw : ∀ x, wipe ((wipe σ vs).set j (some x)) vs = wipe σ vs) (hw1 : ∀ x y, wipe ((wipe ((wipe σ vs).set j (some x)) [j1]).set j1 (some y)) [j1] = wipe ((wipe σ vs).set j (some x)) [j1]) (hz : yss.flatten.length ≤ 1000)
    (hin : ∀ (i : Nat) (x : V) (ys : List V) (H' : Hp) (R : It → Hp → Prop), xs[i]? = some x → yss[i]? = some ys → Same H1 H' → (∀ b H'', Same H' H'' → (∀ H3, Same H1 H3 → SqL K H3 b ys) → R (Itl K b) H'') → wi1 ((wipe σ vs).set j (some x)) H' R)
    (ht : ∀ (i : Nat) (x y : V) (ys : List V) (H' : Hp) (Q' : Bool → Hp → Prop), xs[i]? = some x → yss[i]? = some ys → y ∈ ys → Same H1 H' → (∀ H'', Same H' H'' → Q' (f y) H'') → tt1 ((wipe ((wipe σ vs).set j (some x)) [j1]).set j1 (some y)) H' Q')
    (he : ∀ (i : Nat) (x y : V) (ys : List V) (H' : Hp) (Q' : VK), xs[i]? = some x → yss[i]? = some ys → y ∈ ys → Q' y H' → te ((wipe ((wipe σ vs).set j (some x)) [j1]).set j1 (some y)) H' Q')
    (hd : ∀ H', Same H1 H' → H' D = some (.lst (yss.flatten.filter f)) → Qd H') :
    ∃ W : Nat → Nat → Hp → Prop, (∃ m, W 0 m (upd H1 D (.lst []))) ∧ ∀ i m H, W i m H →
      ((Itl K a).stop i H ∧ Qd H) ∨ ((Itl K a).go i H ∧ ∃ Nx : Hp → Prop, (∀ H', Nx H' → ∃ m', m' < m ∧ W (i + 1) m' H') ∧ ∀ x H', (Itl K a).yld i H x H' → gName j x (wipe σ vs) H' fun σ2 H2 => wipe σ2 vs = wipe σ vs ∧ tYes σ2 H2 fun b H3 =>
        if b = true then wi1 σ2 H3 fun J1 H4 => ∃ W1 : Nat → Nat → Hp → Prop, (∃ m, W1 0 m H4) ∧ ∀ g k H, W1 g k H →
          (J1.stop g H ∧ Nx H) ∨ (J1.go g H ∧ ∃ Nx1 : Hp → Prop, (∀ H', Nx1 H' → ∃ k', k' < k ∧ W1 (g + 1) k' H') ∧ ∀ x H', J1.yld g H x H' → gName j1 x (wipe σ2 [j1]) H' fun σ3 H5 => wipe σ3 [j1] = wipe σ2 [j1] ∧ tt1 σ3 H5 fun b H6 =>
            if b = true then te σ3 H6 fun y H7 => ∃ acc, H7 D = some (.lst acc) ∧ acc.length < sizeLine ∧ Nx1 (upd H7 D (.lst (acc ++ [y]))) else Nx1 H6)
        else Nx H3) := by
  have step : ∀ (H' : Hp) (acc : List V), Same H1 H' → H' D = some (.lst acc) → ∀ zs, Same H1 (upd H' D (.lst zs)) := fun H' acc sm h zs y o hy => by
    rw [upd_ne (ne_of_none hy hD)]; exact sm _ _ hy
  have hfl : ∀ {a b : List (List V)}, (a ++ b).flatten.length = a.flatten.length + b.flatten.length := fun {a b} => by rw [List.flatten_append, List.length_append]
  refine ⟨fun i m H => m = xs.length - i ∧ i ≤ xs.length ∧ Same H1 H ∧ H D = some (.lst ((yss.take i).flatten.filter f)), ⟨xs.length, by simp, Nat.zero_le _, same_new hD, by rw [List.take_zero]; exact upd_same⟩, ?_⟩
  rintro i m H ⟨rfl, hi, sm, hDl⟩
  have sq := sm.seq hx
  by_cases hlt : i < xs.length
  · refine .inr ⟨⟨xs, xs[i], sq, by simp [hlt]⟩, fun H' => Same H1 H' ∧ H' D = some (.lst ((yss.take (i + 1)).flatten.filter f)), fun H' p => ⟨xs.length - (i + 1), by omega, rfl, hlt, p.1, p.2⟩, fun x H' y => ?_⟩
    obtain ⟨rfl, hxy⟩ := y
    have hxi := hxy xs sq
    have hyi : yss[i]? = some yss[i] := List.getElem?_eq_getElem (by omega)
    have htk : (yss.take (i + 1)).flatten = (yss.take i).flatten ++ yss[i] := by
      rw [List.take_add_one, hyi, List.flatten_append]; simp
    have htot : ((yss.take i).flatten ++ yss[i]).length ≤ 1000 := by
      rw [← htk]
      have e : yss.flatten.length = (yss.take (i + 1)).flatten.length + (yss.drop (i + 1)).flatten.length := by rw [← hfl, List.take_append_drop]
      omega
    rw [List.length_append] at htot
    refine ⟨hw _, yesIte (hin i x _ _ _ hxi hyi sm fun b H4 s4 hb => ?_)⟩
    refine ⟨fun g k H => k = yss[i].length - g ∧ g ≤ yss[i].length ∧ Same H1 H ∧ H D = some (.lst (((yss.take i).flatten ++ yss[i].take g).filter f)), ⟨yss[i].length, by simp, Nat.zero_le _, sm.trans s4, by rw [List.take_zero, List.append_nil]; exact s4 _ _ hDl⟩, ?_⟩
    rintro g k H5 ⟨rfl, hg, sm5, hD5⟩
    have sq5 := hb H5 sm5
    by_cases hgl : g < yss[i].length
    · refine .inr ⟨⟨yss[i], yss[i][g], sq5, by simp [hgl]⟩, fun H' => Same H1 H' ∧ H' D = some (.lst (((yss.take i).flatten ++ yss[i].take (g + 1)).filter f)), fun H' p => ⟨yss[i].length - (g + 1), by omega, rfl, hgl, p.1, p.2⟩, fun z H6 yz => ?_⟩
      obtain ⟨rfl, hzz⟩ := yz
      have hzg := hzz _ sq5
      have hzm := List.mem_of_getElem? hzg
      have htg : (yss.take i).flatten ++ yss[i].take (g + 1) = ((yss.take i).flatten ++ yss[i].take g) ++ [z] := by
        rw [List.take_add_one, hzg, ← List.append_assoc]; rfl
      refine ⟨hw1 _ _, ht i x z _ _ _ hxi hyi hzm sm5 fun H7 s7 => ?_⟩
      have hD7 := s7 _ _ hD5
      cases hf : f z with
      | true =>
        rw [if_pos rfl]
        refine he i x z _ _ _ hxi hyi hzm ⟨_, hD7, small1000 ?_, step H7 _ (sm5.trans s7) hD7 _, ?_⟩
        · refine Nat.le_trans (List.length_filter_le _ _) ?_
          rw [List.length_append, List.length_take]; omega
        · rw [upd_same, htg, List.filter_append]
          simp [hf]
      | false =>
        rw [if_neg Bool.false_ne_true]
        refine ⟨sm5.trans s7, ?_⟩
        rw [hD7, htg, List.filter_append]
        simp [hf]
    · have eg : g = yss[i].length := by omega
      refine .inl ⟨⟨_, sq5, by omega⟩, sm5, ?_⟩
      rw [hD5, eg, List.take_length, htk]
  · have ei : i = xs.length := by omega
    refine .inl ⟨⟨xs, sq, by omega⟩, hd H sm ?_⟩
    rw [hDl, ei, ← hlen, List.take_length]
end Sg

set_option Elab.async false
set_option linter.all false
set_option maxRecDepth 100000
set_option maxHeartbeats 4000000
/-! sorted(d) of a dict whose keys are whole numbers, any number of them -/
namespace Sg
open PySem PySem.Spec PyProof.Rows L2
def rSortDI : List V → Hp → VK → Prop := fun vs H Q => ∃ (d : Addr) (es : List (Key × V)) (ns : List Int), vs = [.ref d] ∧ H d = some (.dK es) ∧ es.map (·.1) = ns.map Sum.inl ∧
  ∀ (ms : List Int) (l : Addr), ms.Perm ns → ms.Pairwise (· ≤ ·) → H l = none → Q (.ref l) (upd H l (.lst (ms.map V.int)))
theorem ints_of_keys {es : List (Key × Value)} {ns : List Int} {arr : Array Value} (hk : es.map (·.1) = ns.map Sum.inl) (hn : arr.toList.length = ns.length)
    (h : ∀ (j : Nat) (v : Value), arr[j]? = some v → ∃ (k : Key) (x : Value), es[j]? = some (k, x) ∧ keyIs k v = true) : IntsAre arr.toList ns := by
  refine ints_each hn fun j v e => ?_
  obtain ⟨k, x, g1, g2⟩ := h j v (by rw [← Array.getElem?_toList]; exact e)
  have g3 : (es.map (·.1))[j]? = some k := by rw [List.getElem?_map, g1]; rfl
  rw [hk, List.getElem?_map] at g3
  cases g4 : ns[j]? with
  | none => rw [g4] at g3; cases g3
  | some y =>
    rw [g4] at g3
    obtain rfl : Sum.inl y = k := Option.some.inj g3
    rcases keyIs_shape (show keyIs (Sum.inl y) v = true from g2) with ⟨i, t, a, b⟩ | ⟨i, t, a, b⟩
    · injection a with a
      exact ⟨y, t, rfl, by rw [a]; exact b⟩
    · cases a
section
variable {X : Cx}
theorem call_sortDI (hcalm : X.calm = true) : CallR X (.builtin "sorted") rSortDI := by
  intro pins s σ H vs us Q I r h
  obtain ⟨d, es, ns, rfl, hd, hns, q⟩ := h
  obtain ⟨u, rfl, ru⟩ := vals1 r
  obtain rfl : u = Value.ref d := ru
  obtain ⟨z, lo, vs, rel, dd⟩ := dk_rd I.hok (Rd.of hd)
  obtain ⟨ep, hat⟩ := dd.dictAt
  have hk : vs.map (·.1) = ns.map Sum.inl := by rw [← rel.keys]; exact hns
  have hl : vs.length = ns.length := by simpa using congrArg List.length hk
  have hz : vs.length ≤ sizeLine := by
    have := rel.length
    omega
  refine Calls.call_function_entry kind_sorted plain_sorted entry_sorted (args_sorted1 _) ?_
  unfold Builtin.«sorted»
  refine wpAny_bind (m := checkCount "sorted" 1 1 _) (wpAny_pure (wpAny_bind (PySem.W.kdu_collect (A := X.A.in1) (PySem.W.kdl_dict (knd := mixKind X.prog X.w) (kvs := vs) (ep := ep) lo) (I.ok.hd hcalm) hat hz fun h1 tk arr ke ha => ?_)))
  have hn : arr.toList.length = ns.length := by rw [Array.length_toList, ha.1, hl]
  have hi : IntsAre arr.toList ns := ints_of_keys hk hn ha.2
  have hza : arr.toList.length ≤ sizeLine := by omega
  have I1 : Inv X pins σ H { s with heap := h1, toks := tk } := I.kept ke
  refine wpAny_bind (wpAny_newList ?_ hza)
  have ho : (h1.push (seqObj "list" arr.toList.toArray 0)).get? h1.objs.size = some (seqObj "list" arr.toList.toArray 0) := by exact Heap.get?_push_size _ rfl
  show wpAny _ _ _ _ _ (Shared.mk (h1.push (seqObj "list" arr.toList.toArray 0)) s.gens s.drawn tk s.os)
  refine wpAny_bind (wpAny_holding (wpAny_call_entry slot_list_sort ⟨_, ho, rfl⟩ entry_list_sort (SrtO.list_sort_ord SrtO.swo_int ho hza (fun h2 => SrtO.ints_sortable hi h2) fun out k1 k2 => ⟨_, rfl, ?_⟩) (args_list_sort _)))
  obtain ⟨m1, m2, m3⟩ := SrtO.ints_out hi k1 k2
  obtain ⟨e', he'⟩ := sortedHeap_at (vs := arr.toList) (out := out.toArray) ho
  have hlen : ((out.map SrtO.iv).map V.int).length ≤ sizeLine := by
    have := m2.length_eq
    rw [List.length_map]
    omega
  refine wpAny_pure ⟨_, rfl, .ref h1.objs.size, upd H h1.objs.size (.lst ((out.map SrtO.iv).map V.int)), I1.laid (t' := tk) (fun b o eb => ?_) (Nat.le_refl _) ⟨hlen, out, e', vals_of_ints m1, he'⟩, rfl, q _ _ m2 m3 (I1.hok.fresh (Nat.le_refl _))⟩
  have hb := Heap.lt_size eb
  rw [sortedHeap_old (Nat.ne_of_lt hb) (Nat.lt_of_lt_of_le hb (by rw [size_push']; exact Nat.le_succ _))]
  exact Heap.get?_push_of_some _ eb
end
end Sg

set_option Elab.async false
set_option linter.all false
set_option maxRecDepth 100000
set_option maxHeartbeats 4000000
namespace Sg
open PySem PySem.Spec PyProof.Rows L2
/-! ### records of the law, as data -/
def recV (n : Nat) : List V := [.int (n : Int), .str "write", .int ((n : Int) % 4), .int 1, .int (n : Int), .int (1 + (n : Int) % 8), .int ((n : Int) % 64), .int ((n : Int) * 7)]
def recDt (n : Nat) : PyData := .tuple [.int (n : Int), .str "write", .int ((n : Int) % 4), .int 1, .int (n : Int), .int (1 + (n : Int) % 8), .int ((n : Int) % 64), .int ((n : Int) * 7)]
def RecT (H : Hp) (v : V) (n : Nat) : Prop := ∃ t, v = .ref t ∧ H t = some (.tup (recV n))
theorem RecT.tups {H H' : Hp} {v : V} {n : Nat} (h : RecT H v n) (t : Tups H H') : RecT H' v n := by
  obtain ⟨a, e, h⟩ := h
  exact ⟨a, e, t _ _ h⟩
theorem RecT.dp {K : PySem.W.Frag} {H : Hp} {v : V} {n : Nat} (h : RecT H v n) : Dp K H v (recDt n) := by
  obtain ⟨a, rfl, h⟩ := h
  exact .tup (SqT.of h) (.cons (.int _) (.cons (.str _) (.cons (.int _) (.cons (.int _) (.cons (.int _) (.cons (.int _) (.cons (.int _) (.cons (.int _) .nil))))))))
theorem recV_flat (n : Nat) : (recV n).all flatC = true := by
  have h : flatC (V.str "write") = true := by decide +kernel
  simp only [recV, List.all_cons, List.all_nil, Bool.and_true, h]
  rfl
theorem RecT.rp {H : Hp} {v : V} {n : Nat} (h : RecT H v n) : RecP H v := by
  obtain ⟨a, e, h⟩ := h
  exact ⟨a, _, e, h, recV_flat n⟩
theorem rec_sh (n : Nat) : SeqAt.shaped (recDt n) = true := by
  refine shaped_of ?_ ?_
  · simp [recDt, PyData.canLay0, PyData.canLayAll0]; decide +kernel
  · simp [recDt, PyData.depth, PyData.depthAll]
theorem rec_eqv (n m : Nat) : PyData.eqv (recDt n) (recDt m) = decide (n = m) := by
  by_cases h : n = m
  · subst h
    rw [SeqAt.eqv_refl _ (SeqAt.canLay_of_shaped (rec_sh n)), decide_eq_true rfl]
  · rw [decide_eq_false h]
    have : ¬ (n : Int) = (m : Int) := by omega
    simp [recDt, PyData.eqv, PyData.eqvAll, this]
theorem rec_D {n : Nat} (h : 1 ≤ n) : Sr.recD (recDt n) = true := by
  have e : Sr.fieldT.lookup ("write" : Str) = some (["namespace", "place", "value"] : List Str) := rfl
  unfold recDt
  rw [Sr.rec_eq e]
  have h1 : (1 : Int) ≤ (n : Int) := by omega
  have h2 : (0 : Int) ≤ (n : Int) % 4 := by omega
  have h3 : (n : Int) % 4 ≤ 3 := by omega
  have h4 : (0 : Int) ≤ (n : Int) % 8 := by omega
  have h5 : (n : Int) % 8 ≤ 7 := by omega
  have h6 : (0 : Int) ≤ (n : Int) % 64 := by omega
  have h7 : (n : Int) % 64 ≤ 63 := by omega
  have f1 : Sr.fieldD "namespace" (.int (1 + (n : Int) % 8)) (n : Int) = true := by
    unfold Sr.fieldD; rw [if_pos rfl]; simp [Sr.betwD]; omega
  have f2 : Sr.fieldD "place" (.int ((n : Int) % 64)) (n : Int) = true := by
    unfold Sr.fieldD; rw [if_neg (by decide), if_pos rfl]; simp [Sr.betwD]; omega
  have f3 : Sr.fieldD "value" (.int ((n : Int) * 7)) (n : Int) = true := by
    unfold Sr.fieldD; rw [if_neg (by decide), if_neg (by decide), if_pos rfl]; rfl
  have f : Sr.fieldsD ["namespace", "place", "value"] [.int (1 + (n : Int) % 8), .int ((n : Int) % 64), .int ((n : Int) * 7)] (n : Int) = true := by
    show (Sr.fieldD _ _ _ && (Sr.fieldD _ _ _ && (Sr.fieldD _ _ _ && true))) = true
    rw [f1, f2, f3]; rfl
  rw [f]
  have g : Sr.counterD "write" (.int (n : Int)) = true := by
    unfold Sr.counterD; rw [if_neg (by decide)]; simp [Sr.atLeastD]; omega
  rw [g]
  simp [Sr.betwD, Sr.atLeastD]
  omega
/-- a page: torn, or a record -/
def PgR (H : Hp) (v : V) (o : Option Nat) : Prop := (v = torn ∧ o = none) ∨ ∃ n, o = some n ∧ 1 ≤ n ∧ RecT H v n
def PsR (H : Hp) (ps : List (List V)) (qs : List (List (Option Nat))) : Prop := Paired (Paired (PgR H)) ps qs
theorem PgR.tups {H H' : Hp} {v : V} {o : Option Nat} (h : PgR H v o) (t : Tups H H') : PgR H' v o := by
  rcases h with h | ⟨n, a, b, c⟩
  · exact .inl h
  · exact .inr ⟨n, a, b, c.tups t⟩
theorem PsR.tups {H H' : Hp} {ps : List (List V)} {qs : List (List (Option Nat))} (h : PsR H ps qs) (t : Tups H H') : PsR H' ps qs := Paired.imp2 (fun _ _ r => Paired.imp2 (fun _ _ z => z.tups t) r) h
/-! ### each_once -/
abbrev OE := Nat × Addr × Addr
def kvE (es : List OE) : List (Key × V) := es.map fun e => (Sum.inl (e.1 : Int), V.ref e.2.2)
theorem es_val {n : Nat} {v : V} : ∀ {es : List OE}, valV (kvE es) (Sum.inl (n : Int)) = some v → ∃ e ∈ es, e.1 = n ∧ v = .ref e.2.2
  | [], h => by cases h
  | e :: es, h => by
    by_cases z : e.1 = n
    · have e1 : valV (kvE (e :: es)) (Sum.inl (n : Int)) = some (.ref e.2.2) := valV_pos (p := (Sum.inl (e.1 : Int), V.ref e.2.2)) (by rw [z])
      rw [e1] at h
      exact ⟨e, List.mem_cons_self, z, (Option.some.inj h).symm⟩
    · have e1 : valV (kvE (e :: es)) (Sum.inl (n : Int)) = valV (kvE es) (Sum.inl (n : Int)) := valV_neg (p := (Sum.inl (e.1 : Int), V.ref e.2.2)) (fun y => z (by have := Sum.inl.inj y; omega))
      rw [e1] at h
      obtain ⟨x, hx, a, b⟩ := es_val h
      exact ⟨x, List.mem_cons_of_mem _ hx, a, b⟩
theorem es_none {n : Nat} : ∀ {es : List OE}, valV (kvE es) (Sum.inl (n : Int)) = none → ∀ e ∈ es, e.1 ≠ n
  | [], _, e, he => nomatch he
  | x :: es, h, e, he => by
    have z : ¬ x.1 = n := fun z => by
      have e1 : valV (kvE (x :: es)) (Sum.inl (n : Int)) = some (.ref x.2.2) := valV_pos (p := (Sum.inl (x.1 : Int), V.ref x.2.2)) (by rw [z])
      rw [e1] at h; cases h
    have e1 : valV (kvE (x :: es)) (Sum.inl (n : Int)) = valV (kvE es) (Sum.inl (n : Int)) := valV_neg (p := (Sum.inl (x.1 : Int), V.ref x.2.2)) (fun y => z (by have := Sum.inl.inj y; omega))
    rw [e1] at h
    rcases List.mem_cons.mp he with rfl | he
    · exact z
    · exact es_none h e he
theorem nodup_key {x y : OE} : ∀ {es : List OE}, (es.map (·.1)).Nodup → x ∈ es → y ∈ es → x.1 = y.1 → x = y
  | [], _, h, _, _ => nomatch h
  | e :: es, nd, hx, hy, h => by
    rw [List.map_cons, List.nodup_cons] at nd
    rcases List.mem_cons.mp hx with a | a <;> rcases List.mem_cons.mp hy with b | b
    · rw [a, b]
    · exact absurd (show e.1 ∈ es.map (·.1) from List.mem_map.mpr ⟨y, b, by rw [← h, a]⟩) nd.1
    · exact absurd (show e.1 ∈ es.map (·.1) from List.mem_map.mpr ⟨x, a, by rw [h, b]⟩) nd.1
    · exact nodup_key nd.2 a b h
theorem es_get {es : List OE} (nd : (es.map (·.1)).Nodup) {e : OE} (he : e ∈ es) : valV (kvE es) (Sum.inl (e.1 : Int)) = some (.ref e.2.2) := by
  cases h : valV (kvE es) (Sum.inl (e.1 : Int)) with
  | none => exact absurd rfl (es_none h e he)
  | some v =>
    obtain ⟨x, hx, a, b⟩ := es_val h
    have : x = e := nodup_key nd hx he a
    rw [b, this]
def tOf (es : List OE) (m : Int) : Addr := ((es.find? fun e => decide ((e.1 : Int) = m)).map (·.2.1)).getD 0
theorem tOf_at {es : List OE} (nd : (es.map (·.1)).Nodup) {e : OE} (he : e ∈ es) : tOf es (e.1 : Int) = e.2.1 := by
  unfold tOf
  cases h : es.find? (fun x => decide ((x.1 : Int) = (e.1 : Int))) with
  | none =>
    have := List.find?_eq_none.mp h e he
    simp at this
  | some x =>
    have h1 := List.find?_some h
    have h2 := List.mem_of_find?_eq_some h
    have h3 : x.1 = e.1 := by have := of_decide_eq_true h1; omega
    rw [nodup_key nd h2 he h3]; rfl
theorem flat_one {α β : Type} (g : α → β) : ∀ l : List α, (l.map fun m => [g m]).flatten = l.map g
  | [] => rfl
  | m :: l => by rw [List.map_cons, List.flatten_cons, flat_one g l]; rfl
theorem paired_map2 {α β γ : Type} {F : β → γ → Prop} {g : α → β} {h : α → γ} : ∀ {l : List α}, (∀ x ∈ l, F (g x) (h x)) → Paired F (l.map g) (l.map h)
  | [], _ => .nil
  | x :: l, hl => .cons (hl x List.mem_cons_self) (paired_map2 fun y hy => hl y (List.mem_cons_of_mem _ hy))
def spOnce (K : PySem.W.Frag) : Sp := fun vs H Q _ => ∃ (a : Addr) (ts : List Addr) (ns : List Nat), vs = [.ref a] ∧ SqL K H a (ts.map V.ref) ∧ Paired (fun t n => H t = some (.tup (recV n))) ts ns ∧ ns.length ≤ 1000 ∧
  ∀ l ts' ns' H', Same H H' → H l = Option.none → H' l = some (.lst (ts'.map V.ref)) → Paired (fun t n => H' t = some (.tup (recV n))) ts' ns' → ns'.Pairwise (· < ·) → (∀ n, n ∈ ns' ↔ n ∈ ns) → Q (.ref l) H'
section
variable {P : Program} {wd : World} {K : PySem.W.Frag} {mg : Str → Option Value} {base : Heap} {f C CL CN CP CS CB CR fW fB fOn fIr fRc : Addr} {fd fdOn fdIr fdRc : FuncData}
theorem scOnce : FnScope ["records","by_order","record","same","order"] ["records"] (defScope sOnce) := ⟨rfl, rfl, rfl, by decide +kernel, rfl, by decide +kernel, by decide +kernel⟩
theorem ok_once (F : Fun K "each_once" "each_once" sOnce f fd) (Y : LT K mg CL) : FnOk P wd K mg base CX0 1 f fd ["records"] (spOnce K) := by
  refine F.ok scOnce (fun vs H Q E h => ?_) (fun cdv A outer s H vs Q E hr h => ?_)
  · obtain ⟨a, ts, ns, rfl, _⟩ := h
    rfl
  · obtain ⟨a, ts, ns, rfl, ha, hp, hn, k1⟩ := h
    refine ⟨_, (pss_cons (ps_set (i := 1) scOnce.nd rfl (Or.inr rfl) pe_dnewK)
      (pss_cons (ps_for PassesOwn.never rfl (pi_list (pv 0)) (pg_name (i := 2) scOnce.nd rfl (Or.inl rfl))
      (pss_cons (ps_set (i := 3) scOnce.nd rfl (Or.inl rfl) (pe_dsetd (pv 1) (pe_ix ix_tup (pv 2) pe_int (fun _ _ => rfl)) (pe_lst pa_nil) ⟨rfl, rfl, rfl, rfl⟩))
      (pss_one (ps_if (pt_cmpR (op_notInD (hu65 hr)) (pv 2) (pv 3) (by rfl))
      (pss_one (ps_expr (pe_bm PySem.F.plainAttrs_list PySem.F.slot_list_append PySem.F.type_list_append mt_append (pv 3) (pa_cons (pv 2) pa_nil)))) pss_nil))))
      (pss_one (ps_ret (pe_lc2 (own := [("order", 4), ("record", 2)]) (g := gName 4) (g1 := gName 2) (tt := tYes) (wi1 := iList K (tDGet (tVar 1) (tVar 4))) (tt1 := tYes) (te := tVar 2) (vs1 := [2]) (by rfl) scOnce.nd (pi_list (pe_callB (call_sortDI rfl) (by rfl) Y.s_sorted (by decide +kernel) (pa_cons (pv 1) pa_nil))) (blkOk_by (own := [("order", 4), ("record", 2)]) (N := ["records", "by_order", "record", "same", "order"]) (sc := defScope sOnce) (by decide +kernel)) (by decide) (fun _ _ _ _ _ => pg_name (i := 4) scOnce.nd rfl (Or.inl rfl)) (fun _ _ _ _ _ => pts_nil) (fun _ _ _ _ _ => (pi_list (pe_dget (hu_of hr) (pv 1) (pv 4) (fun _ _ => rfl)))) (fun _ _ _ _ _ => pg_name (i := 2) scOnce.nd rfl (Or.inl rfl)) (fun _ _ _ _ _ => pts_nil) (fun _ _ _ _ _ => by exact (pv 2))))))), ?_⟩
    refine fun d hd => ?_
    have s1 := same_new (o := .dK []) hd
    have hd1 : upd H d (.dK []) d = some (.dK (kvE [])) := upd_same
    generalize upd H d (.dK []) = H1 at s1 hd1
    have hlen := hp.length
    refine ⟨_, rfl, a, rfl, ⟨_, s1.seq ha⟩, ?_⟩
    refine for_list (K := K) (a := a) (xs := ts.map V.ref) (fun i σ' H' => ∃ (v2 v3 : Option V) (es : List OE), σ' = [some (.ref a), some (.ref d), v2, v3, none] ∧ Same H H' ∧ H' d = some (.dK (kvE es)) ∧ (es.map (·.1)).Nodup ∧ es.length ≤ i ∧ (∀ e ∈ es, H' e.2.2 = some (.lst [.ref e.2.1]) ∧ H' e.2.1 = some (.tup (recV e.1)) ∧ e.2.2 ≠ d) ∧ ∀ n, n ∈ es.map (·.1) ↔ n ∈ ns.take i)
      ⟨none, none, [], rfl, s1, hd1, List.nodup_nil, Nat.zero_le _, ⟨(by intro e h; cases h), (by intro n; simp)⟩⟩ (fun i σ' H' _ ⟨_, _, _, _, sm, _⟩ => sm.seq ha) ?_ ?_
    · rintro i x σ' H2 hx ⟨v2, v3, es, rfl, sm, hd2, nd, hel, hes, hmem⟩
      obtain ⟨t, hti, rfl⟩ := map_get hx
      obtain ⟨n, hni, htn⟩ := paired_at hp hti
      have htn2 := sm _ _ htn
      have hil := (List.getElem?_eq_some_iff.mp hni).1
      have rt : RecT H2 (.ref t) n := ⟨t, rfl, htn2⟩
      have tk : ∀ m, m ∈ ns.take (i + 1) ↔ m ∈ ns.take i ∨ m = n := fun m => by
        rw [List.take_add_one, hni, List.mem_append]; simp
      refine ⟨_, rfl, d, rfl, .inl ⟨_, Rd.of hd2⟩, _, rfl, t, _, _, _, rfl, rfl, SqT.of htn2, atI_nat (j := 0) rfl, by show 0 ≤ sizeLine; decide, fun z hz => ?_⟩
      have s3 := same_new (o := .lst []) hz
      have hd3 := s3 _ _ hd2
      have rt3 := rt.tups (same_tups s3)
      have hzd : z ≠ d := fun e => by rw [e, hd2] at hz; cases hz
      refine ⟨kvE es, Sum.inl (n : Int), hd3, rfl, ?_, fun v hv => ?_, fun hnone => ?_⟩
      · unfold kvE; rw [List.length_map]; exact small1000 (by omega)
      · obtain ⟨e, he, en, ev⟩ := es_val hv
        subst ev
        obtain ⟨g1, g2, g3⟩ := hes e he
        rw [en] at g2
        have hl3 := s3 _ _ g1
        have re : RecT (upd H2 z (.lst [])) (.ref e.2.1) n := ⟨_, rfl, s3 _ _ g2⟩
        refine ⟨_, rfl, _, rfl, _, _, rt3.dp, .lst (SqL.of hl3) (.cons re.dp .nil), rec_sh n, shaped_list (by simp only [PyData.canLayAll0, SeqAt.canLay_of_shaped (rec_sh n), Bool.and_self]) (by simp [PyData.depthAll, recDt, PyData.depth]), _, rfl, ?_⟩
        rw [List.any_cons, rec_eqv, decide_eq_true rfl]
        refine iteF ⟨_, _, es, rfl, sm.trans s3, hd3, nd, by omega, fun e' he' => ⟨s3 _ _ (hes e' he').1, s3 _ _ (hes e' he').2.1, (hes e' he').2.2⟩, fun m => ?_⟩
        rw [hmem m, tk m]
        constructor
        · exact .inl
        · rintro (h | h)
          · exact h
          · rw [h]; exact (hmem n).mp (List.mem_map.mpr ⟨e, he, en⟩)
      · have hput : putK (kvE es) (Sum.inl (n : Int)) (V.ref z) = kvE (es ++ [(n, t, z)]) := by
          rw [putK_new _ hnone]; unfold kvE; rw [List.map_append]; rfl
        rw [hput]
        have nn := es_none hnone
        generalize hH4 : upd (upd H2 z (.lst [])) d (.dK (kvE (es ++ [(n, t, z)]))) = H4
        have k34 : ∀ b, b ≠ d → ∀ o, upd H2 z (.lst []) b = some o → H4 b = some o := fun b hb o ho => by rw [← hH4, upd_ne hb]; exact ho
        have hz4 : H4 z = some (.lst []) := k34 z hzd _ upd_same
        have hd4 : H4 d = some (.dK (kvE (es ++ [(n, t, z)]))) := by rw [← hH4, upd_same]
        have htd : t ≠ d := fun e => by rw [e, hd2] at htn2; cases htn2
        have ht4 := k34 t htd _ (s3 _ _ htn2)
        have rt4 : RecT H4 (.ref t) n := ⟨t, rfl, ht4⟩
        refine ⟨_, rfl, _, rfl, _, _, rt4.dp, .lst (SqL.of hz4) .nil, rec_sh n, shaped_list (by simp [PyData.canLayAll0]) (by simp [PyData.depthAll]), _, rfl, ?_⟩
        refine iteT ⟨_, rfl, .inl ⟨rfl, _, SqL.of hz4⟩, _, rfl, z, [], _, rfl, rfl, hz4, by show 0 < sizeLine; decide, ?_⟩
        generalize hH5 : upd H4 z (.lst ([] ++ [V.ref t])) = H5
        have k45 : ∀ b, b ≠ z → ∀ o, H4 b = some o → H5 b = some o := fun b hb o ho => by rw [← hH5, upd_ne hb]; exact ho
        have keep : ∀ b o, H2 b = some o → b ≠ d → H5 b = some o := fun b o ho hb => k45 b (ne_of_none ho hz) _ (k34 b hb _ (s3 _ _ ho))
        have hdH : H d = Option.none := hd
        refine ⟨_, _, es ++ [(n, t, z)], rfl, fun b o ho => keep b o (sm _ _ ho) (ne_of_none ho hdH), k45 d (fun e => hzd e.symm) _ hd4, ?_, ?_, fun e he => ?_, fun m => ?_⟩
        · rw [List.map_append, List.nodup_append]
          refine ⟨nd, by simp, fun p hp' r hr' => ?_⟩
          obtain ⟨e, he, rfl⟩ := List.mem_map.mp hp'
          have : r = n := by simpa using hr'
          rw [this]; exact nn e he
        · rw [List.length_append, List.length_singleton]; omega
        · rcases List.mem_append.mp he with he | he
          · exact ⟨keep _ _ (hes e he).1 (hes e he).2.2, keep _ _ (hes e he).2.1 (fun y => by
              have := (hes e he).2.1
              rw [y, hd2] at this; cases this), (hes e he).2.2⟩
          · rw [List.mem_singleton.mp he]
            exact ⟨by rw [← hH5]; exact upd_same, keep _ _ htn2 htd, hzd⟩
        · rw [List.map_append, List.mem_append, hmem m, tk m]
          simp
    · rintro σ' H2 ⟨v2, v3, es, rfl, sm, hd2, nd, hel, hes, hmem⟩
      rw [List.length_map] at hmem hel
      rw [show ts.length = ns.length from hlen, List.take_length] at hmem
      have hes1 : es.length ≤ 1000 := by omega
      refine ⟨_, rfl, d, kvE es, es.map fun e => (e.1 : Int), rfl, hd2, by unfold kvE; rw [List.map_map, List.map_map]; rfl, fun ms l hperm hpw hl => ?_⟩
      have s3 := same_new (o := .lst (ms.map V.int)) hl
      have hml : ms.length = es.length := by rw [hperm.length_eq, List.length_map]
      have hin : ∀ m ∈ ms, ∃ e ∈ es, (e.1 : Int) = m := fun m hm => by
        obtain ⟨e, he, h⟩ := List.mem_map.mp (hperm.mem_iff.mp hm)
        exact ⟨e, he, h⟩
      have hlx : upd H2 l (.lst (ms.map V.int)) l = some (.lst (ms.map V.int)) := upd_same
      generalize upd H2 l (.lst (ms.map V.int)) = H3 at s3 hlx
      refine ⟨l, rfl, ⟨_, SqL.of hlx⟩, fun D hD => ?_⟩
      refine lc2_flat (ms.map fun m => [V.ref (tOf es m)]) (fun _ => true) (by rw [List.length_map, List.length_map]) hD (SqL.of hlx) (fun _ => rfl) (fun _ _ => rfl) (by rw [flat_one, List.length_map]; omega) (fun i x ys H' R hx hy sm' r' => ?_) (fun i x y ys H' Q' hx hy hyy sm' q' => q' H' (Same.refl H')) (fun i x y ys H' Q' hx hy hyy q' => ⟨_, rfl, q'⟩) fun H' sm' hDl => ?_
      · obtain ⟨m, hm, rfl⟩ := map_get hx
        rw [List.getElem?_map, hm] at hy
        cases hy
        obtain ⟨e, he, rfl⟩ := hin m (List.mem_of_getElem? hm)
        dsimp only at r'
        rw [tOf_at nd he] at r'
        have s5 := s3.trans sm'
        have g := DGet.k (k := Sum.inl (e.1 : Int)) (s5 _ _ hd2)
        rw [es_get nd he] at g
        exact ⟨_, rfl, _, rfl, d, _, rfl, g, _, rfl, ⟨_, SqL.of (s5 _ _ (hes e he).1)⟩, r' _ H' (Same.refl H') fun H5 s6 => SqL.of (s6 _ _ (s3 _ _ (hes e he).1))⟩
      · have e1 : ((ms.map fun m => [V.ref (tOf es m)]).flatten.filter fun _ => true) = (ms.map (tOf es)).map V.ref := by
          rw [flat_one, List.map_map, List.filter_eq_self.mpr (fun _ _ => rfl)]; rfl
        rw [e1] at hDl
        have s5 := s3.trans sm'
        refine k1 D (ms.map (tOf es)) (ms.map Int.toNat) H' (sm.trans s5) ?_ hDl (paired_map2 fun m hm => ?_) ?_ fun n => ?_
        · exact sm.free (s3.free hD)
        · obtain ⟨e, he, rfl⟩ := hin m hm
          rw [tOf_at nd he]
          exact s5 _ _ (hes e he).2.1
        · rw [List.pairwise_map]
          have nd2 : ms.Nodup := hperm.nodup_iff.mpr (by
            have e2 : (es.map fun e => (e.1 : Int)) = (es.map (·.1)).map (fun n : Nat => (n : Int)) := by rw [List.map_map]; rfl
            rw [e2]
            exact List.Pairwise.map _ (fun a b (h : a ≠ b) => by omega) nd)
          have hnn : ∀ m ∈ ms, 0 ≤ m := fun m hm => by
            obtain ⟨e, _, h⟩ := hin m hm
            omega
          refine List.Pairwise.imp_of_mem (R := fun a b => a ≤ b ∧ a ≠ b) (fun {a b} ha hb h => ?_) (hpw.and nd2)
          have h1 := hnn a ha
          have h2 := hnn b hb
          omega
        · rw [← hmem n, List.mem_map]
          constructor
          · rintro ⟨m, hm, rfl⟩
            obtain ⟨e, he, h⟩ := hin m hm
            exact List.mem_map.mpr ⟨e, he, by omega⟩
          · intro h
            obtain ⟨e, he, rfl⟩ := List.mem_map.mp h
            exact ⟨(e.1 : Int), hperm.mem_iff.mpr (List.mem_map.mpr ⟨e, he, rfl⟩), by omega⟩
end
end Sg

set_option Elab.async false
set_option linter.all false
set_option maxRecDepth 100000
set_option maxHeartbeats 4000000
namespace Sg
open PySem PySem.Spec PyProof.Rows L2
def isRef : V → Bool
  | .ref _ => true
  | _ => false
/-! ### the records of the pages -/
theorem row_refs {H : Hp} : ∀ {xs : List V} {q : List (Option Nat)}, Paired (PgR H) xs q → ∃ ts ns, xs.filter isRef = ts.map V.ref ∧ Paired (fun t n => H t = some (.tup (recV n))) ts ns ∧ (∀ n, n ∈ ns ↔ some n ∈ q) ∧ ns.length ≤ xs.length
  | _, _, .nil => ⟨[], [], rfl, .nil, fun n => by simp, Nat.le_refl _⟩
  | _, _, .cons (a := v) (b := o) (l₁ := xs) (l₂ := q) r t => by
    obtain ⟨ts, ns, h1, h2, h3, h4⟩ := row_refs t
    rcases r with ⟨rfl, rfl⟩ | ⟨n, rfl, hn, a, rfl, ha⟩
    · refine ⟨ts, ns, ?_, h2, fun m => ?_, Nat.le_succ_of_le h4⟩
      · rw [List.filter_cons_of_neg (show ¬ isRef torn = true by decide)]; exact h1
      · rw [h3]; simp
    · refine ⟨a :: ts, n :: ns, ?_, .cons ha h2, fun m => ?_, Nat.succ_le_succ h4⟩
      · rw [List.filter_cons_of_pos (show isRef (.ref a) = true from rfl), h1]; rfl
      · rw [List.mem_cons, h3, List.mem_cons]
        constructor
        · rintro (h | h)
          · exact .inl (by rw [h])
          · exact .inr h
        · rintro (h | h)
          · exact .inl (Option.some.inj h)
          · exact .inr h
theorem nons_ref (n : Nat) : (List.replicate n V.non).filter isRef = [] := by
  rw [List.filter_eq_nil_iff]
  intro v hv
  rw [(List.mem_replicate.mp hv).2]
  decide
theorem ps_refs {H : Hp} : ∀ {ps : List (List V)} {qs : List (List (Option Nat))}, PsR H ps qs → (∀ xs ∈ ps, xs.length ≤ 8) → ∃ ts ns, (ps.map row).flatten.filter isRef = ts.map V.ref ∧ Paired (fun t n => H t = some (.tup (recV n))) ts ns ∧ (∀ n, n ∈ ns ↔ ∃ q ∈ qs, some n ∈ q) ∧ ns.length ≤ 8 * ps.length ∧ (ps.map row).flatten.length = 8 * ps.length
  | _, _, .nil, _ => ⟨[], [], rfl, .nil, fun n => by simp, Nat.le_refl _, rfl⟩
  | _, _, .cons (a := xs) (b := q) (l₁ := ps) (l₂ := qs) r t, h8 => by
    obtain ⟨ts, ns, h1, h2, h3, h4, h5⟩ := ps_refs t fun ys hy => h8 ys (List.mem_cons_of_mem _ hy)
    obtain ⟨ts', ns', g1, g2, g3, g4⟩ := row_refs r
    have hx := h8 xs List.mem_cons_self
    refine ⟨ts' ++ ts, ns' ++ ns, ?_, Paired.app2 g2 h2, fun n => ?_, ?_, ?_⟩
    · rw [List.map_cons, List.flatten_cons, List.filter_append, h1, List.map_append]
      congr 1
      unfold row
      rw [List.filter_append, nons_ref, List.append_nil]
      exact g1
    · rw [List.mem_append, g3, h3]
      constructor
      · rintro (h | ⟨q', hq, h⟩)
        · exact ⟨q, List.mem_cons_self, h⟩
        · exact ⟨q', List.mem_cons_of_mem _ hq, h⟩
      · rintro ⟨q', hq, h⟩
        rcases List.mem_cons.mp hq with rfl | hq
        · exact .inl h
        · exact .inr ⟨q', hq, h⟩
    · rw [List.length_append, List.length_cons]; omega
    · rw [List.map_cons, List.flatten_cons, List.length_append, row_len hx, h5, List.length_cons]; omega
def pgD : Option Nat → PyData
  | none => .str "torn"
  | some n => recDt n
theorem PgR.dp {K : PySem.W.Frag} {H : Hp} {v : V} {o : Option Nat} (h : PgR H v o) : Dp K H v (pgD o) := by
  rcases h with ⟨rfl, rfl⟩ | ⟨n, rfl, _, r⟩
  · exact .str _
  · exact r.dp
theorem torn_lay : (PyData.str "torn").canLay0 = true := by decide +kernel
theorem pg_lay (o : Option Nat) : (pgD o).canLay0 = true ∧ (pgD o).depth ≤ 1 := by
  cases o with
  | none => exact ⟨torn_lay, by simp [pgD, PyData.depth]⟩
  | some n => exact ⟨SeqAt.canLay_of_shaped (rec_sh n), by simp [pgD, recDt, PyData.depth, PyData.depthAll]⟩
theorem pg_eqv (o : Option Nat) (n : Nat) : PyData.eqv (pgD o) (recDt n) = decide (o = some n) := by
  cases o with
  | none => simp [pgD, recDt, PyData.eqv]
  | some m =>
    show PyData.eqv (recDt m) (recDt n) = _
    rw [rec_eqv]
    by_cases h : m = n
    · rw [decide_eq_true h, decide_eq_true (by rw [h])]
    · rw [decide_eq_false h, decide_eq_false (fun z => h (Option.some.inj z))]
def rowD (q : List (Option Nat)) : List PyData := q.map pgD ++ List.replicate (8 - q.length) .none
theorem pgs_dp2 {K : PySem.W.Frag} {H : Hp} : ∀ {xs : List V} {q : List (Option Nat)}, Paired (PgR H) xs q → DpAll K H xs (q.map pgD)
  | _, _, .nil => .nil
  | _, _, .cons r t => .cons r.dp (pgs_dp2 t)
theorem row_D {K : PySem.W.Frag} {H : Hp} {xs : List V} {q : List (Option Nat)} (h : Paired (PgR H) xs q) : DpAll K H (row xs) (rowD q) := by
  unfold row rowD
  rw [← h.length]
  exact dpAll_append (pgs_dp2 h) (nons_dp _).1
theorem pgs_lay : ∀ q : List (Option Nat), PyData.canLayAll0 (q.map pgD) = true ∧ PyData.depthAll (q.map pgD) ≤ 1
  | [] => ⟨by simp [PyData.canLayAll0], by simp [PyData.depthAll]⟩
  | o :: q => by
    obtain ⟨a, b⟩ := pgs_lay q
    obtain ⟨c, d⟩ := pg_lay o
    refine ⟨?_, ?_⟩
    · simp only [List.map_cons, PyData.canLayAll0, a, c, Bool.and_self]
    · simp only [List.map_cons, PyData.depthAll]; omega
theorem rowD_lay (q : List (Option Nat)) : PyData.canLayAll0 (rowD q) = true ∧ PyData.depthAll (rowD q) ≤ 1 := by
  obtain ⟨a, b⟩ := pgs_lay q
  obtain ⟨_, c, d, _⟩ := nons_dp (K := default) (H := fun _ => none) (8 - q.length)
  exact ⟨canLay_append a c, depth_append b (by omega)⟩
theorem rowD_sh (q : List (Option Nat)) : SeqAt.shaped (.list (rowD q)) = true := shaped_list (rowD_lay q).1 (by have := (rowD_lay q).2; omega)
theorem rowD_any (q : List (Option Nat)) (n : Nat) : (rowD q).any (fun z => PyData.eqv z (recDt n)) = decide (some n ∈ q) := by
  unfold rowD
  rw [List.any_append]
  have e2 : (List.replicate (8 - q.length) PyData.none).any (fun z => PyData.eqv z (recDt n)) = false := by
    rw [List.any_eq_false]
    intro z hz
    rw [(List.mem_replicate.mp hz).2]
    simp [recDt, PyData.eqv]
  rw [e2, Bool.or_false, List.any_map]
  by_cases h : some n ∈ q
  · rw [decide_eq_true h, List.any_eq_true]
    exact ⟨_, h, by show PyData.eqv (pgD (some n)) (recDt n) = true; rw [pg_eqv, decide_eq_true rfl]⟩
  · rw [decide_eq_false h, List.any_eq_false]
    intro o ho z
    have z : PyData.eqv (pgD o) (recDt n) = true := z
    rw [pg_eqv] at z
    exact h (by rw [← of_decide_eq_true z]; exact ho)
def RecsAt (H : Hp) (l : Addr) (qs : List (List (Option Nat))) : Prop := ∃ ts ns, H l = some (.lst (ts.map V.ref)) ∧ Paired (fun t n => H t = some (.tup (recV n))) ts ns ∧ ns.Pairwise (· < ·) ∧ ∀ n, n ∈ ns ↔ ∃ q ∈ qs, some n ∈ q
def spRecords (C CL : Addr) : Sp := fun vs H Q _ => ∃ lg fl c2 as2 ps qs, vs = [.ref lg] ∧ LogAt C CL H lg fl c2 as2 ps ∧ PsR H ps qs ∧ ∀ l H', Same H H' → H l = Option.none → RecsAt H' l qs → Q (.ref l) H'
def spTop (C CL : Addr) : Sp := fun vs H Q _ => ∃ lg fl c2 as2 ps qs, vs = [.ref lg] ∧ LogAt C CL H lg fl c2 as2 ps ∧ PsR H ps qs ∧ ∀ (m : Nat) H', Same H H' → (∀ q ∈ qs, ∀ n, some n ∈ q → n ≤ m) → (m = 0 ∨ ∃ q ∈ qs, some m ∈ q) → Q (.int (m : Int)) H'
def holdL (qs : List (List (Option Nat))) (n : Nat) : List Nat := (List.range qs.length).filter fun b => decide (some n ∈ qs.getD b [])
def spHolders (C CL : Addr) : Sp := fun vs H Q _ => ∃ lg fl c2 as2 ps qs rv n, vs = [.ref lg, rv] ∧ LogAt C CL H lg fl c2 as2 ps ∧ PsR H ps qs ∧ RecT H rv n ∧ ∀ l H', Same H H' → H l = Option.none → IntsAt H' l (holdL qs n) → Q (.ref l) H'
section
variable {P : Program} {wd : World} {K : PySem.W.Frag} {mg : Str → Option Value} {base : Heap} {f C CL CN CP CS CB CR fW fB fOn fIr fRc : Addr} {fd fdOn fdIr fdRc : FuncData}
theorem scRecordsM : FnScope ["self","pages","page"] ["self"] (defScope (cL 8)) := ⟨rfl, rfl, rfl, by decide +kernel, rfl, by decide +kernel, by decide +kernel⟩
theorem ok_recordsM (F : Fun K "records" "Log.records" (cL 8) f fd) (Y : LT K mg CL) (GO : Def P wd K mg base CX0 "each_once" 1 ["records"] (spOnce K) fOn fdOn) (GI : Def P wd K mg base CX0 "is_record" 5 ["value"] (Sr.spIsRec K) fIr fdIr) : FnOk P wd K mg base CX0 6 f fd ["self"] (spRecords C CL) := by
  refine F.ok scRecordsM (fun vs H Q E h => ?_) (fun cdv A outer s H vs Q E hr h => ?_)
  · obtain ⟨lg, fl, c2, as2, ps, qs, rfl, _⟩ := h
    rfl
  · obtain ⟨lg, fl, c2, as2, ps, qs, rfl, L, PQ, k1⟩ := h
    have hr1 : Room 1 _ := hr.mono (by decide)
    refine ⟨_, (pss_one (ps_ret (pe_call GO.ok hr1 (by rfl) GO.mg GO.kp GO.bd .nil pass0 (pa_cons (pe_lc2 (own := [("pages", 1), ("page", 2)]) (g := gName 1) (g1 := gName 2) (tt := tYes) (wi1 := iList K (tVar 1)) (tt1 := tB (tCall (Sr.spIsRec K) [] E0 (tCons (tVar 2) tNil))) (te := tVar 2) (vs1 := [2]) (by rfl) scRecordsM.nd (pi_list (pe_fld (pv 0) rfl)) (blkOk_by (own := [("pages", 1), ("page", 2)]) (N := ["self", "pages", "page"]) (sc := defScope (cL 8)) (by decide +kernel)) (by decide) (fun _ _ _ _ _ => pg_name (i := 1) scRecordsM.nd rfl (Or.inl rfl)) (fun _ _ _ _ _ => pts_nil) (fun _ _ _ _ _ => (pi_list (pv 1))) (fun _ _ _ _ _ => pg_name (i := 2) scRecordsM.nd rfl (Or.inl rfl)) (fun _ _ _ _ _ => pts_one (pt_val (pe_call GI.ok hr (by rfl) GI.mg GI.kp GI.bd .nil pass0 (pa_cons (pv 2) pa_nil)))) (fun _ _ _ _ _ => by exact (pv 2))) pa_nil)))), ?_⟩
    obtain ⟨dx, hob⟩ := id L.ob
    have hle := L.le
    have h8 : ∀ xs ∈ ps, xs.length ≤ 8 := fun xs hx => (L.pg xs hx).1
    obtain ⟨ts, ns, e1, e2, e3, e4, e5⟩ := ps_refs PQ h8
    refine ⟨_, rfl, lg, CL, dx, _, _, rfl, hob, Y.cl, Y.nc, lf_contents, c2, rfl, ⟨_, SqL.of L.gr.ls⟩, fun D hD => ?_⟩
    refine lc2_flat (ps.map row) isRef (by rw [List.length_map, List.length_map, L.gr.len]) hD (SqL.of L.gr.ls) (fun _ => rfl) (fun _ _ => rfl) (by rw [e5]; omega) (fun i x ys H' R hx hy sm r' => ?_) (fun i x y ys H' Q' hx hy hyy sm q' => ?_) (fun i x y ys H' Q' hx hy hyy q' => ⟨_, rfl, q'⟩) fun H' sm hDl => ?_
    · obtain ⟨a, ha, rfl⟩ := map_get hx
      rw [List.getElem?_map] at hy
      cases hxs : ps[i]? with
      | none => rw [hxs] at hy; cases hy
      | some xs =>
        rw [hxs] at hy; cases hy
        have hrow := L.gr.rows i a xs ha hxs
        exact ⟨_, rfl, a, rfl, ⟨_, SqL.of (sm _ _ hrow)⟩, r' a H' (Same.refl H') fun H5 s6 => SqL.of (s6 _ _ hrow)⟩
    · rw [List.getElem?_map] at hy
      cases hxs : ps[i]? with
      | none => rw [hxs] at hy; cases hy
      | some xs =>
        rw [hxs] at hy; cases hy
        obtain ⟨q, hq, pq⟩ := paired_at (PQ.tups (same_tups sm)) hxs
        rcases List.mem_append.mp hyy with m | m
        · obtain ⟨k, hk⟩ := List.getElem?_of_mem m
          obtain ⟨o, ho, po⟩ := paired_at pq hk
          refine ⟨_, rfl, y, pgD o, rfl, po.dp, fun H'' s'' => ⟨_, rfl, ?_⟩⟩
          rcases po with ⟨rfl, rfl⟩ | ⟨n, rfl, hn, r⟩
          · exact q' H'' s''
          · rw [show pgD (some n) = recDt n from rfl, rec_D hn]
            obtain ⟨t, rfl, _⟩ := r
            exact q' H'' s''
        · have : y = .non := (List.mem_replicate.mp m).2
          subst this
          exact ⟨_, rfl, .non, .none, rfl, .non, fun H'' s'' => ⟨_, rfl, q' H'' s''⟩⟩
    · rw [e1] at hDl
      refine nil_ ⟨D, ts, ns, rfl, SqL.of hDl, Paired.imp2 (fun _ _ z => sm _ _ z) e2, by omega, fun l ts' ns' H2 s2 hl hl2 p2 pw hm => k1 l H2 (sm.trans s2) (sm.free hl) ⟨ts', ns', hl2, p2, pw, fun n => (hm n).trans (e3 n)⟩⟩
theorem scTopM : FnScope ["self","records"] ["self"] (defScope (cL 9)) := ⟨rfl, rfl, rfl, by decide +kernel, rfl, by decide +kernel, by decide +kernel⟩
theorem ok_topM (F : Fun K "top" "Log.top" (cL 9) f fd) (Y : LT K mg CL) (GR : MDef P wd K mg base CX0 CL "records" 6 ["self"] (spRecords C CL) fRc fdRc) : FnOk P wd K mg base CX0 7 f fd ["self"] (spTop C CL) := by
  refine F.ok scTopM (fun vs H Q E h => ?_) (fun cdv A outer s H vs Q E hr h => ?_)
  · obtain ⟨lg, fl, c2, as2, ps, qs, rfl, _⟩ := h
    rfl
  · obtain ⟨lg, fl, c2, as2, ps, qs, rfl, L, PQ, k1⟩ := h
    refine ⟨_, (pss_cons (ps_set (i := 1) scTopM.nd rfl (Or.inl rfl) (pe_meth0 (pv 0) Y.cl GR.me GR.ok hr GR.bd .nil pass0))
      (pss_one (ps_ret (pe_ifExp (pt_truth (pv 1) (by intro _; rfl)) (pe_ix ix_tup (pe_ix ix_list (pv 1) (pe_un un_neg pe_int) (fun _ _ => rfl)) pe_int (fun _ _ => rfl)) pe_int)))), ?_⟩
    obtain ⟨dx, hob⟩ := id L.ob
    refine ⟨_, rfl, lg, dx, _, rfl, hob, lf_no (by decide +kernel), lg, fl, c2, as2, ps, qs, rfl, L, PQ, fun l H1 s1 hl ra => ?_⟩
    obtain ⟨ts, ns, h1, h2, h3, h4⟩ := ra
    refine ⟨_, rfl, _, .inl ⟨_, SqL.of h1, rfl⟩, ?_⟩
    have hlen := h2.length
    cases hn : ns with
    | nil =>
      rw [hn] at hlen
      have e : ts = [] := List.length_eq_zero_iff.mp hlen
      rw [e]
      refine iteF (k1 0 H1 s1 (fun q hq n hn' => ?_) (.inl rfl))
      have := (h4 n).mpr ⟨q, hq, hn'⟩
      rw [hn] at this; cases this
    | cons n0 nr =>
      obtain ⟨pre, m, e⟩ : ∃ pre m, ns = pre ++ [m] := by
        refine ⟨ns.dropLast, ns.getLast (by rw [hn]; simp), (List.dropLast_concat_getLast _).symm⟩
      obtain ⟨tpre, tm, e2⟩ : ∃ tpre tm, ts = tpre ++ [tm] := by
        have : ts ≠ [] := fun z => by rw [z, hn] at hlen; cases hlen
        exact ⟨ts.dropLast, ts.getLast this, (List.dropLast_concat_getLast _).symm⟩
      have hidx : ts[tpre.length]? = some tm := by rw [e2, List.getElem?_append_right (Nat.le_refl _), Nat.sub_self]; rfl
      obtain ⟨m', hm', htm⟩ := paired_at h2 hidx
      have : tpre.length = pre.length := by
        rw [e, e2, List.length_append, List.length_append] at hlen
        simpa using hlen
      have em : m' = m := by
        rw [e, this, List.getElem?_append_right (Nat.le_refl _), Nat.sub_self] at hm'
        exact (Option.some.inj hm').symm
      subst em
      have hne : (!(ts.map V.ref).isEmpty) = true := by rw [e2]; simp
      rw [hne]
      refine iteT ?_
      refine ⟨_, rfl, _, rfl, l, _, _, _, rfl, rfl, SqL.of h1, (by rw [e2, List.map_append]; exact atI_last _ _), tm, _, _, _, rfl, rfl, SqT.of htm, atI_nat (j := 0) rfl, k1 m' H1 s1 (fun q hq n hn' => ?_) (.inr ?_)⟩
      · have hm := (h4 n).mpr ⟨q, hq, hn'⟩
        rw [e] at hm h3
        rcases List.mem_append.mp hm with z | z
        · exact Nat.le_of_lt ((List.pairwise_append.mp h3).2.2 n z m' (List.mem_singleton.mpr rfl))
        · rw [List.mem_singleton.mp z]; exact Nat.le_refl _
      · exact (h4 m').mp (by rw [e]; simp)
theorem scHoldersM : FnScope ["self","record","block"] ["self","record"] (defScope (cL 10)) := ⟨rfl, rfl, rfl, by decide +kernel, rfl, by decide +kernel, by decide +kernel⟩
theorem ok_holdersM (F : Fun K "holders" "Log.holders" (cL 10) f fd) (T : FT K mg C CN CP CS fW fB) (Y : LT K mg CL) : FnOk P wd K mg base CX0 1 f fd ["self","record"] (spHolders C CL) := by
  refine F.ok scHoldersM (fun vs H Q E h => ?_) (fun cdv A outer s H vs Q E hr h => ?_)
  · obtain ⟨lg, fl, c2, as2, ps, qs, rv, n, rfl, _⟩ := h
    rfl
  · obtain ⟨lg, fl, c2, as2, ps, qs, rv, n, rfl, L, PQ, hrv, k1⟩ := h
    refine ⟨_, (pss_one (ps_ret (pe_lc (own := [("block", 2)]) (g := gName 2) (tt := tTest (tOp (rInD K) (tVar 1) (tOp (rIxL K) (tFld K (tVar 0) "_contents") (tVar 2)))) (te := tVar 2) (by rfl) scHoldersM.nd (pi_range1 (by rfl) T.bt.range (pa_cons (pe_fld (pe_fld (pv 0) rfl) rfl) pa_nil)) (blkOk_by (own := [("block", 2)]) (N := ["self", "record", "block"]) (sc := defScope sHoldersM) (by decide +kernel)) (fun _ _ _ _ _ => pg_name (i := 2) scHoldersM.nd rfl (Or.inl rfl)) (fun _ _ _ _ _ => pts_one (pt_cmpR (op_inD (hu65 hr)) (pv 1) (pe_ix ix_list (pe_fld (pv 0) rfl) (pv 2) (fun _ _ => rfl)) (by rfl))) (fun _ _ _ _ _ => by exact (pv 2))))), ?_⟩
    obtain ⟨dx, hob⟩ := id L.ob
    obtain ⟨dxf, fs, hfl, hfb⟩ := id L.fb
    have hle := L.le
    have hql := PQ.length
    refine ⟨_, rfl, lg, CL, dx, _, _, rfl, hob, Y.cl, Y.nf, lf_flash, fl, C, dxf, _, _, rfl, hfl, T.cl, T.n1, hfb, _, rfl, by omega, by omega, fun D hD => ?_⟩
    rw [show ((ps.length : Int)).toNat = qs.length by omega]
    refine lc_rngF (fun b => decide (some n ∈ qs.getD b [])) hD (fun _ => rfl) (by omega) (fun i H' Q' hi sm q' => ?_) (fun i H' Q' hi q' => ⟨_, rfl, q'⟩) fun H' sm hDl => k1 D H' sm hD hDl
    have hvs : ps[i]? = some ps[i] := List.getElem?_eq_getElem (by omega)
    obtain ⟨a, ha, hrow⟩ := L.gr.at hvs
    obtain ⟨q, hq, pq⟩ := paired_at (PQ.tups (same_tups sm)) hvs
    have eq : qs.getD i [] = q := by rw [List.getD_eq_getElem?_getD, hq]; rfl
    have e0 : (0 : Int) + (i : Int) = (i : Int) := by omega
    refine ⟨_, rfl, _, rfl, lg, CL, dx, _, _, rfl, sm _ _ hob, Y.cl, Y.nc, lf_contents, _, rfl, c2, _, _, _, rfl, rfl, SqL.of (sm _ _ L.gr.ls), (by rw [e0]; exact atI_nat (get_map ha)), _, _, (hrv.tups (same_tups sm)).dp, .lst (SqL.of (sm _ _ hrow)) (row_D pq), rec_sh n, rowD_sh q, _, rfl, ?_⟩
    rw [rowD_any, ← eq]
    exact q' H' (Same.refl H')
end
end Sg

set_option Elab.async false
set_option linter.all false
set_option maxRecDepth 100000
set_option maxHeartbeats 4000000
namespace Sg
open PySem PySem.Spec PyProof.Rows L2
def spUsed : Sp := fun vs H Q _ => ∃ a xs, vs = [.ref a] ∧ H a = some (.lst (row xs)) ∧ PgsN H xs ∧ Q (.int (xs.length : Int)) H
def spLRec : Sp := fun vs H Q _ => ∃ n : Nat, vs = [.int (n : Int)] ∧ n ≤ 100000 ∧ ∀ t H', Same H H' → H' t = some (.tup (recV n)) → Q (.ref t) H'
structure HeldAt (H : Hp) (hd : Addr) (hs : List Addr) (ps : List (List V)) : Prop where
  gr : Grid H hd hs ps
  pg : Pgs H ps
  le : ps.length ≤ 100
theorem HeldAt.same {H H' : Hp} {hd : Addr} {hs : List Addr} {ps : List (List V)} (h : HeldAt H hd hs ps) (s : Same H H') : HeldAt H' hd hs ps := ⟨h.gr.same s, h.pg.mono (same_tups s), h.le⟩
def spLState : Sp := fun vs H Q _ => ∃ hd hs ps b, vs = [.ref hd, .int b] ∧ HeldAt H hd hs ps ∧ ∃ (j : Nat) (xs : List V), b = (j : Int) ∧ ps[j]? = some xs ∧ Q (.str (stS xs.length)) H
def spLRoom : Sp := fun vs H Q _ => ∃ hd hs ps cp, vs = [.ref hd, .bl cp] ∧ HeldAt H hd hs ps ∧ ∀ H', Same H H' → Q (.int (roomM ps cp)) H'
def spTarget : Sp := fun vs H Q _ => ∃ hd hs ps wl ws, vs = [.ref hd, .ref wl] ∧ HeldAt H hd hs ps ∧ H wl = some (.lst (ws.map V.int)) ∧ ws.length = ps.length ∧ (blks ps "open" ≠ [] ∨ blks ps "free" ≠ []) ∧ Q (.int (nextM ws ps : Int)) H
theorem row_look {xs : List V} {H : Hp} (h : PgsN H xs) {i : Nat} (hi : i < 8) : ∃ v, (row xs)[i]? = some v ∧ decide (v = .non) = decide (xs.length ≤ i) := by
  by_cases z : xs.length ≤ i
  · exact ⟨.non, row_non z hi, by rw [decide_eq_true rfl, decide_eq_true z]⟩
  · have hx : xs[i]? = some xs[i] := List.getElem?_eq_getElem (by omega)
    refine ⟨_, row_get hx, ?_⟩
    rw [decide_eq_false (h.2 _ (List.mem_of_getElem? hx)).ne, decide_eq_false z]
section
variable {P : Program} {wd : World} {K : PySem.W.Frag} {mg : Str → Option Value} {base : Heap} {f C CL CN CP CS CB CR fW fB fUs fLs : Addr} {fd fdUs fdLs : FuncData}
theorem scUsed : FnScope ["pages","last","page"] ["pages"] (defScope sUsed) := ⟨rfl, rfl, rfl, by decide +kernel, rfl, by decide +kernel, by decide +kernel⟩
theorem ok_used (F : Fun K "_law_used" "_law_used" sUsed f fd) (T : FT K mg C CN CP CS fW fB) : FnOk P wd K mg base CX0 1 f fd ["pages"] spUsed := by
  refine F.ok scUsed (fun vs H Q E h => ?_) (fun cdv A outer s H vs Q E hr h => ?_)
  · obtain ⟨a, xs, rfl, _⟩ := h
    rfl
  · obtain ⟨a, xs, rfl, ha, hx, k1⟩ := h
    refine ⟨_, (pss_cons (ps_set (i := 1) scUsed.nd rfl (Or.inl rfl) pe_int)
      (pss_cons (ps_for PassesOwn.never rfl (pi_range1 (by rfl) T.bt.range (pa_cons pe_int pa_nil)) (pg_name (i := 2) scUsed.nd rfl (Or.inl rfl))
      (pss_one (ps_if (pt_cmpR op_notN (pe_ix ix_list (pv 0) (pv 2) (fun _ _ => rfl)) pe_non (nomark _))
      (pss_one (ps_set (i := 1) scUsed.nd rfl (Or.inl rfl) (pe_op op_add (pv 2) pe_int))) pss_nil)))
      (pss_one (ps_ret (pv 1))))), ?_⟩
    refine ⟨_, rfl, by decide, by decide, ?_⟩
    have h8 := hx.1
    refine for_range (lo := 0) (n := 8) (fun i σ' H' => ∃ v2 : Option V, σ' = [some (.ref a), some (.int ((min i xs.length : Nat) : Int)), v2] ∧ H' = H) ⟨none, rfl, rfl⟩ ?_ ?_
    · rintro i σ' H' hi ⟨v2, rfl, rfl⟩
      obtain ⟨v, hv, ev⟩ := row_look hx hi
      have e0 : (0 : Int) + (i : Int) = (i : Int) := by omega
      refine ⟨_, rfl, _, rfl, a, _, _, _, rfl, rfl, SqL.of ha, (by rw [e0]; exact atI_nat hv), rfl, _, rfl, ?_⟩
      rw [ev]
      by_cases z : xs.length ≤ i
      · rw [decide_eq_true z]
        refine iteF ⟨some (.int (0 + (i : Int))), ?_, rfl⟩
        rw [show min (i + 1) xs.length = min i xs.length by omega]; rfl
      · rw [decide_eq_false z]
        refine iteT ⟨_, rfl, _, _, rfl, rfl, some (.int (0 + (i : Int))), ?_, rfl⟩
        rw [show ((min (i + 1) xs.length : Nat) : Int) = (0 : Int) + (i : Int) + 1 by omega]; rfl
    · rintro σ' H' ⟨v2, rfl, rfl⟩
      refine ⟨_, rfl, ?_⟩
      rw [show min 8 xs.length = xs.length by omega]
      exact k1
theorem scLRecord : FnScope ["order"] ["order"] (defScope sLRecord) := ⟨rfl, rfl, rfl, by decide +kernel, rfl, by decide +kernel, by decide +kernel⟩
theorem ok_lrecord (F : Fun K "_law_record" "_law_record" sLRecord f fd) : FnOk P wd K mg base CX0 1 f fd ["order"] spLRec := by
  refine F.ok scLRecord (fun vs H Q E h => ?_) (fun cdv A outer s H vs Q E hr h => ?_)
  · obtain ⟨n, rfl, _⟩ := h
    rfl
  · obtain ⟨n, rfl, hn, k1⟩ := h
    refine ⟨_, (pss_one (ps_ret (pe_tup (pa_cons (pv 0) (pa_cons pe_str (pa_cons (pe_op op_mod (pv 0) pe_int) (pa_cons pe_int (pa_cons (pv 0) (pa_cons (pe_op op_add pe_int (pe_op op_mod (pv 0) pe_int)) (pa_cons (pe_op op_mod (pv 0) pe_int) (pa_cons (pe_op op_mul (pv 0) pe_int) pa_nil))))))))))), ?_⟩
    refine ⟨_, rfl, _, rfl, _, _, rfl, rfl, (by show (0:Int) < _; decide), _, rfl, _, rfl, _, _, rfl, rfl, (by show (0:Int) < _; decide), _, _, rfl, rfl, _, rfl, _, _, rfl, rfl, (by show (0:Int) < _; decide), _, rfl, _, _, rfl, rfl, .inl ⟨by omega, by omega⟩, by show 8 ≤ sizeLine; decide, fun t ht => k1 t _ (same_new ht) upd_same⟩
theorem scLState : FnScope ["held","block","used"] ["held","block"] (defScope sLState) := ⟨rfl, rfl, rfl, by decide +kernel, rfl, by decide +kernel, by decide +kernel⟩
theorem ok_lstate (F : Fun K "_law_state" "_law_state" sLState f fd) (GU : Def P wd K mg base CX0 "_law_used" 1 ["pages"] spUsed fUs fdUs) : FnOk P wd K mg base CX0 2 f fd ["held","block"] spLState := by
  refine F.ok scLState (fun vs H Q E h => ?_) (fun cdv A outer s H vs Q E hr h => ?_)
  · obtain ⟨hd, hs, ps, b, rfl, _⟩ := h
    rfl
  · obtain ⟨hd, hs, ps, b, rfl, HE, j, xs, rfl, hx, k1⟩ := h
    refine ⟨_, (pss_cons (ps_set (i := 2) scLState.nd rfl (Or.inl rfl) (pe_call GU.ok hr (by rfl) GU.mg GU.kp GU.bd .nil pass0 (pa_cons (pe_ix ix_list (pv 0) (pv 1) (fun _ _ => rfl)) pa_nil)))
      (pss_cons (ps_if (pt_cmpR op_eq (pv 2) pe_int (nomark _))
      (pss_one (ps_ret pe_str)) pss_nil)
      (pss_cons (ps_if (pt_cmpR op_lt (pv 2) pe_int (nomark _))
      (pss_one (ps_ret pe_str)) pss_nil)
      (pss_one (ps_ret pe_str))))), ?_⟩
    obtain ⟨a, ha, hrow⟩ := HE.gr.at hx
    have pg := HE.pg xs (List.mem_of_getElem? hx)
    have h8 := pg.1
    refine ⟨_, rfl, _, rfl, hd, _, _, _, rfl, rfl, SqL.of HE.gr.ls, atI_nat (get_map ha), nil_ ⟨a, xs, rfl, hrow, pg, ?_⟩⟩
    unfold stS at k1
    refine ⟨_, rfl, rfl, _, rfl, ?_⟩
    by_cases e0 : xs.length = 0
    · rw [decide_eq_true (show V.int (xs.length : Int) = V.int 0 by rw [e0]; rfl)]
      rw [if_pos e0] at k1
      exact iteT k1
    · rw [decide_eq_false (show ¬ V.int (xs.length : Int) = V.int 0 from fun z => e0 (by have := V.int.inj z; omega))]
      rw [if_neg e0] at k1
      refine iteF ⟨_, rfl, _, _, rfl, rfl, _, rfl, ?_⟩
      by_cases e8 : xs.length = 8
      · rw [decide_eq_false (show ¬ (xs.length : Int) < 8 by omega)]
        rw [if_pos e8] at k1
        exact iteF k1
      · rw [decide_eq_true (show (xs.length : Int) < 8 by omega)]
        rw [if_neg e8] at k1
        exact iteT k1
theorem scLRoom : FnScope ["held","is_copy","block","free","room"] ["held","is_copy"] (defScope sLRoom) := ⟨rfl, rfl, rfl, by decide +kernel, rfl, by decide +kernel, by decide +kernel⟩
theorem lstate_tt {ps : List (List V)} {w : Str} {i : Nat} {xs : List V} (h : ps[i]? = some xs) : decide (V.str (stS xs.length) = V.str w) = stB ps w i := by
  unfold stB
  rw [List.getD_eq_getElem?_getD, h]
  by_cases z : stS xs.length = w
  · rw [decide_eq_true (show V.str _ = V.str w by rw [z]), decide_eq_true (show stS (Option.getD (some xs) []).length = w from z)]
  · rw [decide_eq_false (show ¬ V.str _ = V.str w from fun y => z (by injection y)), decide_eq_false (show ¬ stS (Option.getD (some xs) []).length = w from z)]
theorem ok_lroom (F : Fun K "_law_room" "_law_room" sLRoom f fd) (T : FT K mg C CN CP CS fW fB) (GU : Def P wd K mg base CX0 "_law_used" 1 ["pages"] spUsed fUs fdUs) (GS : Def P wd K mg base CX0 "_law_state" 2 ["held","block"] spLState fLs fdLs) : FnOk P wd K mg base CX0 3 f fd ["held","is_copy"] spLRoom := by
  refine F.ok scLRoom (fun vs H Q E h => ?_) (fun cdv A outer s H vs Q E hr h => ?_)
  · obtain ⟨hd, hs, ps, cp, rfl, _⟩ := h
    rfl
  · obtain ⟨hd, hs, ps, cp, rfl, HE, k1⟩ := h
    have hr1 : Room 1 _ := hr.mono (by decide)
    refine ⟨_, (pss_cons (ps_set (i := 3) scLRoom.nd rfl (Or.inl rfl) (pe_callB call_len_seq (by rfl) T.bt.len PySem.boot_len (pa_cons (pe_lc (own := [("block", 2)]) (g := gName 2) (tt := tTest (tOp rEq (tCall spLState [] E0 (tCons (tVar 0) (tCons (tVar 2) tNil))) (tC (.str "free")))) (te := tVar 2) (by rfl) scLRoom.nd (pi_range1 (by rfl) T.bt.range (pa_cons (pe_callB call_len_seq (by rfl) T.bt.len PySem.boot_len (pa_cons (pv 0) pa_nil)) pa_nil)) (blkOk_by (own := [("block", 2)]) (N := ["held", "is_copy", "block", "free", "room"]) (sc := defScope sLRoom) (by decide +kernel)) (fun _ _ _ _ _ => pg_name (i := 2) scLRoom.nd rfl (Or.inl rfl)) (fun _ _ _ _ _ => pts_one (pt_cmpR op_eq (pe_call GS.ok hr (by rfl) GS.mg GS.kp GS.bd .nil pass0 (pa_cons (pv 0) (pa_cons (pv 2) pa_nil))) pe_str (nomark _))) (fun _ _ _ _ _ => by exact (pv 2))) pa_nil)))
      (pss_cons (ps_set (i := 4) scLRoom.nd rfl (Or.inl rfl) (pe_op op_mul pe_int (pv 3)))
      (Evl.pss_cut (ps_if (PW.pt (pw_and (pt_not (pt_val (pv 1))) (pw_and1 (pt_cmpR op_eq (pv 3) pe_int (nomark _)))))
      (pss_one (ps_ret pe_int)) pss_nil)
      (Evl.pss_cut (ps_if (pt_not (pt_val (pv 1)))
      (pss_one (ps_set (i := 4) scLRoom.nd rfl (Or.inl rfl) (pe_op op_mul pe_int (pe_op op_sub (pv 3) pe_int)))) pss_nil)
      (pss_cons (ps_for PassesOwn.never rfl (pi_range1 (by rfl) T.bt.range (pa_cons (pe_callB call_len_seq (by rfl) T.bt.len PySem.boot_len (pa_cons (pv 0) pa_nil)) pa_nil)) (pg_name (i := 2) scLRoom.nd rfl (Or.inl rfl))
      (pss_one (ps_if (pt_cmpR op_eq (pe_call GS.ok hr (by rfl) GS.mg GS.kp GS.bd .nil pass0 (pa_cons (pv 0) (pa_cons (pv 2) pa_nil))) pe_str (nomark _))
      (pss_one (ps_set (i := 4) scLRoom.nd rfl (Or.inl rfl) (pe_op op_sub (pe_op op_add (pv 4) pe_int) (pe_call GU.ok hr1 (by rfl) GU.mg GU.kp GU.bd .nil pass0 (pa_cons (pe_ix ix_list (pv 0) (pv 2) (fun _ _ => rfl)) pa_nil))))) pss_nil)))
      (pss_one (ps_ret (pv 4)))))))), ?_⟩
    have hle := HE.le
    have hgl := HE.gr.len
    have hfl := blks_len ps "free"
    have hol := blks_len ps "open"
    refine ⟨_, rfl, hd, _, rfl, .inl (SqL.of HE.gr.ls), _, rfl, by rw [List.length_map]; omega, by rw [List.length_map]; omega, fun D hD => ?_⟩
    rw [show (((hs.map V.ref).length : Int)).toNat = ps.length by rw [List.length_map]; omega]
    refine lc_rngF (stB ps "free") hD (fun _ => rfl) (by omega) (fun i H' Q' hi sm q' => ?_) (fun i H' Q' hi q' => ⟨_, rfl, q'⟩) fun H1 s1 hDl => ?_
    · have hvs : ps[i]? = some ps[i] := List.getElem?_eq_getElem hi
      refine ⟨_, rfl, _, rfl, hd, hs, ps, _, rfl, HE.same sm, i, ps[i], by omega, hvs, rfl, _, rfl, ?_⟩
      rw [lstate_tt hvs]
      exact q' H' (Same.refl H')
    refine nil_ ⟨D, _, rfl, .inl (SqL.of hDl), ?_⟩
    rw [List.length_map, show ((List.range ps.length).filter (stB ps "free")).length = (blks ps "free").length from rfl]
    have key := k1
    unfold roomM at key
    refine ⟨_, rfl, _, _, rfl, rfl, .inl ⟨by decide, by decide⟩, ?_⟩
    refine ⟨fun σ' H' => σ' = [some (.ref hd), some (.bl cp), none, some (.int ((blks ps "free").length : Int)), some (.int (8 * ((blks ps "free").length : Int)))] ∧ H' = H1 ∧ ¬ (cp = false ∧ (blks ps "free").length = 0), ?_, ?_⟩
    · refine ⟨_, rfl, cp, rfl, ?_⟩
      cases cp with
      | true => exact iteF (iteF ⟨rfl, rfl, fun z => by cases z.1⟩)
      | false =>
        refine iteT ⟨_, rfl, rfl, _, rfl, ?_⟩
        by_cases e0 : (blks ps "free").length = 0
        · rw [decide_eq_true (show V.int ((blks ps "free").length : Int) = V.int 0 by rw [e0]; rfl)]
          have := key H1 s1
          rw [if_pos ⟨rfl, e0⟩] at this
          exact iteT this
        · rw [decide_eq_false (show ¬ V.int ((blks ps "free").length : Int) = V.int 0 from fun z => e0 (by have := V.int.inj z; omega))]
          exact iteF ⟨rfl, rfl, fun z => e0 z.2⟩
    rintro σ1 H1' ⟨rfl, rfl, hne⟩
    refine ⟨fun σ' H' => σ' = [some (.ref hd), some (.bl cp), none, some (.int ((blks ps "free").length : Int)), some (.int (8 * (if cp = true then ((blks ps "free").length : Int) else ((blks ps "free").length : Int) - 1)))] ∧ H' = H1', ?_, ?_⟩
    · refine ⟨_, rfl, cp, rfl, ?_⟩
      cases cp with
      | true => exact iteF ⟨rfl, rfl⟩
      | false => exact iteT ⟨_, rfl, _, _, rfl, rfl, _, _, rfl, rfl, .inl ⟨by decide, by decide⟩, rfl, rfl⟩
    rintro σ2 H2 ⟨rfl, rfl⟩
    have HE2 := HE.same s1
    refine ⟨_, rfl, hd, _, rfl, .inl (SqL.of HE2.gr.ls), _, rfl, by rw [List.length_map]; omega, by rw [List.length_map]; omega, ?_⟩
    rw [show (((hs.map V.ref).length : Int)).toNat = ps.length by rw [List.length_map]; omega]
    refine for_range (lo := 0) (fun i σ' H' => ∃ v2 : Option V, σ' = [some (.ref hd), some (.bl cp), v2, some (.int ((blks ps "free").length : Int)), some (.int (8 * (if cp = true then ((blks ps "free").length : Int) else ((blks ps "free").length : Int) - 1) + (((List.range i).filter (stB ps "open")).map fun b => (8 : Int) - (lenB ps b : Int)).sum))] ∧ H' = H2)
      ⟨none, by simp, rfl⟩ ?_ ?_
    · rintro i σ' H' hi ⟨v2, rfl, rfl⟩
      have hvs : ps[i]? = some ps[i] := List.getElem?_eq_getElem hi
      have e0 : (0 : Int) + (i : Int) = (i : Int) := by omega
      have elen : lenB ps i = ps[i].length := by unfold lenB; rw [List.getD_eq_getElem?_getD, hvs]; rfl
      refine ⟨_, rfl, _, rfl, hd, hs, ps, _, rfl, HE2, i, ps[i], by omega, hvs, rfl, _, rfl, ?_⟩
      rw [lstate_tt hvs]
      cases hb : stB ps "open" i with
      | true =>
        obtain ⟨a, ha, hrow⟩ := HE2.gr.at hvs
        refine iteT ⟨_, rfl, _, _, rfl, rfl, _, rfl, _, rfl, hd, _, _, _, rfl, rfl, SqL.of HE2.gr.ls, (by rw [e0]; exact atI_nat (get_map ha)), nil_ ⟨a, ps[i], rfl, hrow, HE2.pg _ (List.mem_of_getElem? hvs), _, _, rfl, rfl, some (.int (0 + (i : Int))), ?_, rfl⟩⟩
        rw [List.range_succ, List.filter_append, List.map_append, List.sum_append]
        simp only [List.filter_cons_of_pos hb, List.filter_nil, List.map_cons, List.map_nil, List.sum_cons, List.sum_nil, elen, List.set]
        have arith : ∀ A S L : Int, A + S + 8 - L = A + (S + (8 - L + 0)) := fun A S L => by omega
        rw [arith]
      | false =>
        refine iteF ⟨some (.int (0 + (i : Int))), ?_, rfl⟩
        rw [List.range_succ, List.filter_append]
        simp [hb, List.set]
    · rintro σ' H' ⟨v2, rfl, rfl⟩
      have := key H' s1
      rw [if_neg hne] at this
      refine ⟨_, rfl, ?_⟩
      rw [show (8 * (if cp = true then ((blks ps "free").length : Int) else ((blks ps "free").length : Int) - 1) + (((List.range ps.length).filter (stB ps "open")).map fun b => (8 : Int) - (lenB ps b : Int)).sum) = sumOpen ps + 8 * (if cp = true then ((blks ps "free").length : Int) else ((blks ps "free").length : Int) - 1) by
        show _ + sumOpen ps = _
        omega]
      exact this
/-- the best of a list of free blocks -/
def bestM (ws : List Int) (l : List Nat) : V := match l.map fun b => ((ws.getD b 0 : Int), (b : Int)) with
  | [] => .non
  | k :: ks => .int (minI k ks).2
theorem minI_snoc (k : Int × Int) (ks : List (Int × Int)) (y : Int × Int) : minI k (ks ++ [y]) = if ltI y (minI k ks) = true then y else minI k ks := by
  unfold minI; rw [List.foldl_append]; rfl
theorem scTarget : FnScope ["held","wears","best","block"] ["held","wears"] (defScope sTarget) := ⟨rfl, rfl, rfl, by decide +kernel, rfl, by decide +kernel, by decide +kernel⟩
theorem ok_target (F : Fun K "_law_target" "_law_target" sTarget f fd) (T : FT K mg C CN CP CS fW fB) (GS : Def P wd K mg base CX0 "_law_state" 2 ["held","block"] spLState fLs fdLs) : FnOk P wd K mg base CX0 3 f fd ["held","wears"] spTarget := by
  refine F.ok scTarget (fun vs H Q E h => ?_) (fun cdv A outer s H vs Q E hr h => ?_)
  · obtain ⟨hd, hs, ps, wl, ws, rfl, _⟩ := h
    rfl
  · obtain ⟨hd, hs, ps, wl, ws, rfl, HE, hwl, hlw, hne, k1⟩ := h
    refine ⟨_, (pss_cons (ps_set (i := 2) scTarget.nd rfl (Or.inl rfl) pe_non)
      (pss_cons (ps_for PassesOwn.never rfl (pi_range1 (by rfl) T.bt.range (pa_cons (pe_callB call_len_seq (by rfl) T.bt.len PySem.boot_len (pa_cons (pv 0) pa_nil)) pa_nil)) (pg_name (i := 3) scTarget.nd rfl (Or.inl rfl))
      (pss_cons (ps_if (pt_cmpR op_eq (pe_call GS.ok hr (by rfl) GS.mg GS.kp GS.bd .nil pass0 (pa_cons (pv 0) (pa_cons (pv 3) pa_nil))) pe_str (nomark _))
      (pss_one (ps_ret (pv 3))) pss_nil)
      (pss_one (ps_if (PW.pt (pw_and (pt_cmpR op_eq (pe_call GS.ok hr (by rfl) GS.mg GS.kp GS.bd .nil pass0 (pa_cons (pv 0) (pa_cons (pv 3) pa_nil))) pe_str (nomark _)) (pw_and1 (PW.pt (pw_or (pt_cmpR op_isN (pv 2) pe_non (nomark _)) (pw_or1 (pt_cmpR op_lt (pe_ix ix_list (pv 1) (pv 3) (fun _ _ => rfl)) (pe_ix ix_list (pv 1) (pv 2) (fun _ _ => rfl)) (nomark _))))))))
      (pss_one (ps_set (i := 2) scTarget.nd rfl (Or.inl rfl) (pv 3))) pss_nil))))
      (pss_one (ps_ret (pv 2))))), ?_⟩
    have hle := HE.le
    have hgl := HE.gr.len
    refine ⟨_, rfl, hd, _, rfl, .inl (SqL.of HE.gr.ls), _, rfl, by rw [List.length_map]; omega, by rw [List.length_map]; omega, ?_⟩
    rw [show (((hs.map V.ref).length : Int)).toNat = ps.length by rw [List.length_map]; omega]
    refine for_range (lo := 0) (fun i σ' H' => ∃ v3 : Option V, σ' = [some (.ref hd), some (.ref wl), some (bestM ws ((List.range i).filter (stB ps "free"))), v3] ∧ H' = H ∧ (List.range i).filter (stB ps "open") = []) ⟨none, rfl, rfl, rfl⟩ ?_ ?_
    · rintro i σ' H' hi ⟨v3, rfl, rfl, hop⟩
      have hvs : ps[i]? = some ps[i] := List.getElem?_eq_getElem hi
      have e0 : (0 : Int) + (i : Int) = (i : Int) := by omega
      refine ⟨_, rfl, _, rfl, hd, hs, ps, _, rfl, HE, i, ps[i], by omega, hvs, rfl, _, rfl, ?_⟩
      rw [lstate_tt hvs]
      cases hb : stB ps "open" i with
      | true =>
        have en : nextM ws ps = i := by
          unfold nextM
          have e : blks ps "open" = (List.range i).filter (stB ps "open") ++ ((List.range' i (ps.length - i)).filter (stB ps "open")) := by
            unfold blks
            rw [← List.filter_append]
            congr 1
            have := List.range_eq_range' (n := ps.length)
            rw [List.range_eq_range', List.range_eq_range', show ps.length = i + (ps.length - i) by omega, ← List.range'_append_1]
            simp
          rw [e, hop, show ps.length - i = (ps.length - i - 1) + 1 by omega, List.range'_succ, List.nil_append, List.filter_cons_of_pos hb]
        refine iteT ⟨_, rfl, ?_⟩
        rw [en] at k1
        rw [e0]
        exact k1
      | false =>
        refine iteF ?_
        have hop' : (List.range (i + 1)).filter (stB ps "open") = [] := by
          rw [List.range_succ, List.filter_append, hop]; simp [hb]
        have hiw : i < ws.length := by omega
        have hwi : ws[i]? = some (ws.getD i 0) := by rw [List.getD_eq_getElem?_getD, List.getElem?_eq_getElem hiw]; rfl
        refine ⟨_, rfl, _, rfl, hd, hs, ps, _, rfl, HE, i, ps[i], by omega, hvs, rfl, _, rfl, ?_⟩
        rw [lstate_tt hvs]
        cases hf : stB ps "free" i with
        | false =>
          refine iteF (iteF ⟨some (.int (0 + (i : Int))), ?_, rfl, hop'⟩)
          have e : (List.range (i + 1)).filter (stB ps "free") = (List.range i).filter (stB ps "free") := by
            rw [List.range_succ, List.filter_append]; simp [hf]
          rw [e]; rfl
        | true =>
          refine iteT ?_
          have e : (List.range (i + 1)).filter (stB ps "free") = (List.range i).filter (stB ps "free") ++ [i] := by
            rw [List.range_succ, List.filter_append]; simp [hf]
          rw [e]
          have hL : ∀ b ∈ (List.range i).filter (stB ps "free"), b < i := fun b hb => List.mem_range.mp (List.mem_filter.mp hb).1
          generalize hLe : (List.range i).filter (stB ps "free") = L at hL ⊢
          cases hm : L.map fun b => ((ws.getD b 0 : Int), (b : Int)) with
          | nil =>
            have e1 : bestM ws L = .non := by unfold bestM; rw [hm]
            have e2 : bestM ws (L ++ [i]) = .int (0 + (i : Int)) := by
              unfold bestM; rw [List.map_append, hm, e0]; rfl
            rw [e1, e2]
            refine ⟨_, rfl, rfl, _, rfl, iteT (iteT ⟨_, rfl, some (.int (0 + (i : Int))), rfl, rfl, hop'⟩)⟩
          | cons k ks =>
            have e1 : bestM ws L = .int (minI k ks).2 := by unfold bestM; rw [hm]
            have e2 : bestM ws (L ++ [i]) = .int (minI k (ks ++ [((ws.getD i 0 : Int), (i : Int))])).2 := by
              unfold bestM; rw [List.map_append, hm]; rfl
            have hmem : minI k ks ∈ L.map fun b => ((ws.getD b 0 : Int), (b : Int)) := by
              rw [hm]
              rcases (minI_le ks k).1 with z | z
              · rw [z]; exact List.mem_cons_self
              · exact List.mem_cons_of_mem _ z
            obtain ⟨b, hb, eb⟩ := List.mem_map.mp hmem
            have hbi := hL b hb
            have hwb : ws[b]? = some (ws.getD b 0) := by rw [List.getD_eq_getElem?_getD, List.getElem?_eq_getElem (by omega)]; rfl
            rw [minI_snoc] at e2
            rw [e1, e2, ← eb]
            refine ⟨_, rfl, rfl, _, rfl, iteF ?_⟩
            refine ⟨_, rfl, _, rfl, wl, _, _, _, rfl, rfl, SqL.of hwl, (by rw [e0]; exact atI_nat (get_map hwi)), _, rfl, _, rfl, wl, _, _, _, rfl, rfl, SqL.of hwl, atI_nat (get_map hwb), _, _, rfl, rfl, _, rfl, ?_⟩
            have elt : ltI ((ws.getD i 0 : Int), (i : Int)) ((ws.getD b 0 : Int), (b : Int)) = decide ((ws.getD i 0 : Int) < ws.getD b 0) := by
              unfold ltI
              by_cases z : (ws.getD i 0 : Int) < ws.getD b 0
              · rw [decide_eq_true z, decide_eq_true (.inl z)]
              · rw [decide_eq_false z, decide_eq_false (by dsimp only; omega)]
            rw [elt]
            by_cases z : (ws.getD i 0 : Int) < ws.getD b 0
            · rw [decide_eq_true z, if_pos rfl]
              refine iteT ⟨_, rfl, some (.int (0 + (i : Int))), ?_, rfl, hop'⟩
              rw [e0]; rfl
            · rw [decide_eq_false z, if_neg Bool.false_ne_true]
              exact iteF ⟨some (.int (0 + (i : Int))), rfl, rfl, hop'⟩
    · rintro σ' H' ⟨v3, rfl, rfl, hop⟩
      refine ⟨_, rfl, ?_⟩
      have ho : blks ps "open" = [] := hop
      have hf := hne.resolve_left fun z => z ho
      have e : bestM ws (blks ps "free") = .int (nextM ws ps : Int) := by
        unfold bestM nextM
        rw [ho]
        dsimp only
        cases e : (blks ps "free").map fun b => ((ws.getD b 0 : Int), (b : Int)) with
        | nil => exact absurd (List.map_eq_nil_iff.mp e) hf
        | cons k ks =>
          dsimp only
          have hm : minI k ks ∈ (blks ps "free").map fun b => ((ws.getD b 0 : Int), (b : Int)) := by
            rw [e]
            rcases (minI_le ks k).1 with z | z
            · rw [z]; exact List.mem_cons_self
            · exact List.mem_cons_of_mem _ z
          obtain ⟨b, hb, eb⟩ := List.mem_map.mp hm
          rw [← eb]; simp
      rw [← e] at k1
      exact k1
end
end Sg

set_option Elab.async false
set_option linter.all false
set_option maxRecDepth 100000
set_option maxHeartbeats 4000000
namespace Sg
open PySem PySem.Spec PyProof.Rows L2
/-! ### sorted(xs) of records of the law, no two equal -/
abbrev RTs (H : Hp) (ts : List Addr) (ns : List Nat) : Prop := Paired (fun t n => H t = some (.tup (recV n))) ts ns
theorem rec_lt {m n : Nat} (h : m ≠ n) : PySem.W.dataLt (recDt m) (recDt n) = decide (m < n) := by
  unfold recDt
  rw [PySem.W.dataLt_tuple, PySem.W.dataLt_cons (by simp [PySem.W.alike])]
  have e : PyData.eqv (.int (m : Int)) (.int (n : Int)) = false := by
    have : ¬ (m : Int) = (n : Int) := by omega
    simp [PyData.eqv, this]
  rw [e, if_neg Bool.false_ne_true, PySem.W.dataLt_int]
  by_cases z : m < n
  · rw [decide_eq_true z, decide_eq_true (by omega)]
  · rw [decide_eq_false z, decide_eq_false (by omega)]
theorem rec_alike (m n : Nat) : PySem.W.alike (recDt m) (recDt n) = true := by simp [recDt, PySem.W.alike, PySem.W.alikeAll]
theorem rts_zip {H : Hp} : ∀ {ts : List Addr} {ns : List Nat}, RTs H ts ns → ∀ b ∈ ts.zip ns, H b.1 = some (.tup (recV b.2))
  | _, _, .nil, b, hb => by simp at hb
  | _, _, .cons r t, b, hb => by
    rw [List.zip_cons_cons] at hb
    rcases List.mem_cons.mp hb with rfl | hb
    · exact r
    · exact rts_zip t b hb
theorem zip_s {α β : Type} : ∀ {a : List α} {b : List β}, a.length = b.length → (a.zip b).map Prod.snd = b ∧ (a.zip b).map Prod.fst = a
  | [], [], _ => ⟨rfl, rfl⟩
  | x :: a, y :: b, h => by
    obtain ⟨p, q⟩ := zip_s (a := a) (b := b) (by simpa using h)
    rw [List.zip_cons_cons, List.map_cons, List.map_cons, p, q]
    exact ⟨rfl, rfl⟩
theorem zip_vals {bs : List (Addr × Nat)} : ∀ {vs : List Value}, Vals (bs.map fun b => V.ref b.1) vs → PySem.W.EachIs (fun v (b : Addr × Nat) => v = Value.ref b.1) vs bs := by
  induction bs with
  | nil => intro vs r; cases r; exact .nil
  | cons t ts ih =>
    intro vs r
    cases r with
    | cons r1 r2 => exact .cons r1 (ih r2)
theorem vals_zip : ∀ {vs : List Value} {bs : List (Addr × Nat)}, PySem.W.EachIs (fun v (b : Addr × Nat) => v = Value.ref b.1) vs bs → Vals (bs.map fun b => V.ref b.1) vs
  | _, _, .nil => .nil
  | _, _, .cons r t => .cons r (vals_zip t)
theorem zip_reads {X : Cx} {pins : List (Addr × Obj)} {σ : L2.St} {H : Hp} {s : Shared} (I : Inv X pins σ H s) : ∀ {bs : List (Addr × Nat)} {vs : List Value}, Vals (bs.map fun b => V.ref b.1) vs → (∀ b ∈ bs, H b.1 = some (.tup (recV b.2))) →
    PySem.W.EachIs (fun v (b : Addr × Nat) => ∃ as, Reads s.heap v (recDt b.2) as) vs bs
  | [], _, .nil, _ => .nil
  | b :: bs, _, .cons r q, h => .cons (Dp.reads I _ _ _ (RecT.dp ⟨b.1, rfl, h b List.mem_cons_self⟩) r) (zip_reads I q fun u hu => h u (List.mem_cons_of_mem _ hu))
def rSortRec (K : PySem.W.Frag) : List V → Hp → VK → Prop := fun vs H Q => ∃ (a : Addr) (ts : List Addr) (ns : List Nat), vs = [.ref a] ∧ SqL K H a (ts.map V.ref) ∧ RTs H ts ns ∧ ns.Nodup ∧
  ∀ (ts' : List Addr) (ns' : List Nat) (p : Addr), RTs H ts' ns' → ns'.Pairwise (· < ·) → (∀ n, n ∈ ns' ↔ n ∈ ns) → H p = none → Q (.ref p) (upd H p (.lst (ts'.map V.ref)))
theorem rts_of {H : Hp} : ∀ {bs : List (Addr × Nat)}, (∀ b ∈ bs, H b.1 = some (.tup (recV b.2))) → RTs H (bs.map Prod.fst) (bs.map Prod.snd)
  | [], _ => .nil
  | b :: bs, h => .cons (h b List.mem_cons_self) (rts_of fun x hx => h x (List.mem_cons_of_mem _ hx))
section
variable {X : Cx}
theorem call_sortRec (hu : X.A.units + 64 < cLine) : CallR X (.builtin "sorted") (rSortRec X.K) := by
  intro pins s σ H vs us Q I r h
  obtain ⟨a, ts, ns, rfl, hs, hr, nd, q⟩ := h
  obtain ⟨z1, z2⟩ := zip_s hr.length
  have hb := rts_zip hr
  rw [← z2, List.map_map] at hs
  obtain ⟨its, rv, hl, hz⟩ := I.list hs
  obtain ⟨u, rfl, ru⟩ := vals1 r
  obtain rfl : u = Value.ref a := ru
  rw [List.length_map] at hz
  generalize hbs : ts.zip ns = bs at *
  have rv' : Vals (bs.map fun b => V.ref b.1) its := rv
  refine PySem.W.sorted_data (enc := fun b : Addr × Nat => recDt b.2) (R := fun v (b : Addr × Nat) => v = Value.ref b.1) hl.isList (zip_vals rv') (zip_reads I rv' hb) ?_ ?_ hz (fun b _ => ?_) fun out ho eo => ?_
  · intro d hd d' hd'
    obtain ⟨b, _, rfl⟩ := List.mem_map.mp hd
    obtain ⟨b', _, rfl⟩ := List.mem_map.mp hd'
    exact rec_alike _ _
  · refine .inl fun d hd => ?_
    obtain ⟨b, _, rfl⟩ := List.mem_map.mp hd
    exact ⟨_, _, rfl⟩
  · have : (recDt b.2).depth ≤ 1 := (pg_lay (some b.2)).2
    show X.A.units + 2 + (recDt b.2).depth < cLine
    omega
  · obtain ⟨ep, he'⟩ := sortedAll_at s.heap its out.toArray
    have hv := vals_zip eo
    have hp := List.mergeSort_perm bs (PySem.W.dataLe false fun b : Addr × Nat => recDt b.2)
    have hpw : (bs.mergeSort (PySem.W.dataLe false fun b : Addr × Nat => recDt b.2)).Pairwise (fun a b => PySem.W.dataLe false (fun b : Addr × Nat => recDt b.2) a b = true) := PySem.W.sort_pairwise (PySem.W.sortLe_total _ false _) bs
    generalize bs.mergeSort (PySem.W.dataLe false fun b : Addr × Nat => recDt b.2) = cs at hv hp hpw
    have hll : (cs.map fun b => V.ref b.1).length ≤ sizeLine := by rw [List.length_map, hp.length_eq]; exact hz
    have ec : (cs.map fun b => V.ref b.1) = (cs.map Prod.fst).map V.ref := by rw [List.map_map]; rfl
    refine ⟨.ref _, upd H (s.heap.objs.size + 1) (.lst (cs.map fun b => V.ref b.1)), I.laid (t' := s.toks) (fun _ _ => sortedAll_old) (Nat.le_succ _) ⟨hll, out, ep, hv, he'⟩, rfl, ?_⟩
    rw [ec]
    have hcb : ∀ b ∈ cs, H b.1 = some (.tup (recV b.2)) := fun b hb' => hb b (hp.mem_iff.mp hb')
    refine q (cs.map Prod.fst) (cs.map Prod.snd) _ (rts_of hcb) ?_ (fun n => by rw [(hp.map Prod.snd).mem_iff, z1]) (I.hok.fresh (Nat.le_succ _))
    have nd2 : (cs.map Prod.snd).Nodup := (hp.map Prod.snd).nodup_iff.mpr (by rw [z1]; exact nd)
    rw [List.pairwise_map]
    have nd3 : cs.Pairwise fun a b => a.2 ≠ b.2 := List.pairwise_map.mp nd2
    refine (hpw.and nd3).imp fun {a b} h => ?_
    have h1 : PySem.W.dataLt (recDt b.2) (recDt a.2) = false := by
      have := h.1
      rw [PySem.W.dataLe_eq] at this
      simpa using this
    rw [rec_lt (fun e => h.2 e.symm)] at h1
    have := of_decide_eq_false h1
    have := h.2
    omega
end
def spFound : Sp := fun vs H Q _ => ∃ hd hs ps qs, vs = [.ref hd] ∧ HeldAt H hd hs ps ∧ PsR H ps qs ∧ ∀ l H', Same H H' → H l = Option.none → RecsAt H' l qs → Q (.ref l) H'
section
variable {P : Program} {wd : World} {K : PySem.W.Frag} {mg : Str → Option Value} {base : Heap} {f C CL CN CP CS CB CR fW fB fUs fLs : Addr} {fd fdUs fdLs : FuncData}
theorem recs_dp {K : PySem.W.Frag} {H : Hp} : ∀ {ts : List Addr} {ns : List Nat}, RTs H ts ns → DpAll K H (ts.map V.ref) (ns.map recDt)
  | _, _, .nil => .nil
  | _, _, .cons r t => .cons (RecT.dp ⟨_, rfl, r⟩) (recs_dp t)
theorem recs_lay : ∀ ns : List Nat, PyData.canLayAll0 (ns.map recDt) = true ∧ PyData.depthAll (ns.map recDt) ≤ 1
  | [] => ⟨by simp [PyData.canLayAll0], by simp [PyData.depthAll]⟩
  | n :: ns => by
    obtain ⟨a, b⟩ := recs_lay ns
    obtain ⟨c, d⟩ := pg_lay (some n)
    refine ⟨?_, ?_⟩
    · simp only [List.map_cons, PyData.canLayAll0, a, show (recDt n).canLay0 = true from c, Bool.and_self]
    · simp only [List.map_cons, PyData.depthAll]
      have : (recDt n).depth ≤ 1 := d
      omega
theorem recs_sh (ns : List Nat) : SeqAt.shaped (.list (ns.map recDt)) = true := shaped_list (recs_lay ns).1 (by have := (recs_lay ns).2; omega)
theorem recs_any (ns : List Nat) (n : Nat) : ((ns.map recDt).any fun z => PyData.eqv z (recDt n)) = decide (n ∈ ns) := by
  rw [List.any_map]
  by_cases h : n ∈ ns
  · rw [decide_eq_true h, List.any_eq_true]
    exact ⟨n, h, by show PyData.eqv (recDt n) (recDt n) = true; rw [rec_eqv, decide_eq_true rfl]⟩
  · rw [decide_eq_false h, List.any_eq_false]
    intro m hm z
    have z : PyData.eqv (recDt m) (recDt n) = true := z
    rw [rec_eqv] at z
    exact h (by rw [← of_decide_eq_true z]; exact hm)
theorem scFound : FnScope ["held","found","pages","page"] ["held"] (defScope sFound) := ⟨rfl, rfl, rfl, by decide +kernel, rfl, by decide +kernel, by decide +kernel⟩
theorem ok_found (F : Fun K "_law_found" "_law_found" sFound f fd) (T : FT K mg C CN CP CS fW fB) (Y : LT K mg CL) : FnOk P wd K mg base CX0 1 f fd ["held"] spFound := by
  refine F.ok scFound (fun vs H Q E h => ?_) (fun cdv A outer s H vs Q E hr h => ?_)
  · obtain ⟨hd, hs, ps, qs, rfl, _⟩ := h
    rfl
  · obtain ⟨hd, hs, ps, qs, rfl, HE, PQ, k1⟩ := h
    refine ⟨_, (pss_cons (ps_set (i := 1) scFound.nd rfl (Or.inl rfl) (pe_lst pa_nil))
      (pss_cons (ps_for PassesOwn.never rfl (pi_list (pv 0)) (pg_name (i := 2) scFound.nd rfl (Or.inl rfl))
      (pss_one (ps_for PassesOwn.never rfl (pi_list (pv 2)) (pg_name (i := 3) scFound.nd rfl (Or.inl rfl))
      (pss_one (ps_if (PW.pt (pw_and (pt_val (pe_callB call_isi (by rfl) T.bd.isi boot_isi (pa_cons (pv 3) (pa_cons (pe_bltn (v := .ty "tuple") (by rfl) T.tup boot_tuple rfl) pa_nil)))) (pw_and1 (pt_cmpR (op_notInD (hu65 hr)) (pv 3) (pv 1) (by rfl)))))
      (pss_one (ps_expr (pe_bm PySem.F.plainAttrs_list PySem.F.slot_list_append PySem.F.type_list_append mt_append (pv 1) (pa_cons (pv 3) pa_nil)))) pss_nil)))))
      (pss_one (ps_ret (pe_callB (call_sortRec hr.units) (by rfl) Y.s_sorted (by decide +kernel) (pa_cons (pv 1) pa_nil)))))), ?_⟩
    have hql := PQ.length
    have hgl := HE.gr.len
    have hle := HE.le
    refine ⟨by show 0 ≤ sizeLine; decide, fun lf hlf => ?_⟩
    have s1 := same_new (o := .lst []) hlf
    have hl1 : upd H lf (.lst []) lf = some (.lst []) := upd_same
    generalize upd H lf (.lst []) = H1 at s1 hl1
    refine ⟨_, rfl, hd, rfl, ⟨_, SqL.of (s1 _ _ HE.gr.ls)⟩, ?_⟩
    refine for_list (K := K) (a := hd) (xs := hs.map V.ref) (fun i σ' H' => ∃ (v2 v3 : Option V) (ts : List Addr) (ns : List Nat), σ' = [some (.ref hd), some (.ref lf), v2, v3] ∧ Same H H' ∧ H' lf = some (.lst (ts.map V.ref)) ∧ RTs H' ts ns ∧ ns.Nodup ∧ ns.length ≤ 8 * i ∧ ∀ n, n ∈ ns ↔ ∃ q ∈ qs.take i, some n ∈ q)
      ⟨none, none, [], [], rfl, s1, hl1, .nil, List.nodup_nil, Nat.zero_le _, fun n => by simp⟩ (fun i σ' H' _ ⟨_, _, _, _, _, sm, _⟩ => SqL.of (sm _ _ HE.gr.ls)) ?_ ?_
    · rintro i x σ' H2 hx ⟨v2, v3, ts, ns, rfl, sm, hl2, rt, nd, hnl, hmem⟩
      obtain ⟨a, ha, rfl⟩ := map_get hx
      have hi := (List.getElem?_eq_some_iff.mp ha).1
      have hxs : ps[i]? = some ps[i] := List.getElem?_eq_getElem (by omega)
      have hrow := HE.gr.rows i a _ ha hxs
      have h8 := (HE.pg _ (List.mem_of_getElem? hxs)).1
      obtain ⟨q, hq, pq⟩ := paired_at PQ hxs
      generalize ps[i] = xs at hxs hrow h8 pq
      refine ⟨_, rfl, a, rfl, ⟨_, SqL.of (sm _ _ hrow)⟩, ?_⟩
      refine for_list (K := K) (a := a) (xs := row xs) (fun j σ' H' => ∃ (v3 : Option V) (ts : List Addr) (ns : List Nat), σ' = [some (.ref hd), some (.ref lf), some (.ref a), v3] ∧ Same H H' ∧ H' lf = some (.lst (ts.map V.ref)) ∧ RTs H' ts ns ∧ ns.Nodup ∧ ns.length ≤ 8 * i + j ∧ ∀ n, n ∈ ns ↔ (∃ q ∈ qs.take i, some n ∈ q) ∨ some n ∈ q.take j)
        ⟨v3, ts, ns, rfl, sm, hl2, rt, nd, hnl, fun n => by rw [hmem]; simp⟩ (fun j σ' H' _ ⟨_, _, _, _, sm, _⟩ => SqL.of (sm _ _ hrow)) ?_ ?_
      · rintro j y σ' H3 hy ⟨v3', ts, ns, rfl, sm3, hl3, rt3, nd3, hnl3, hm3⟩
        have hj8 : j < 8 := by have := (List.getElem?_eq_some_iff.mp hy).1; rw [row_len h8] at this; exact this
        have skip : (∀ n, some n ∈ q.take (j + 1) ↔ some n ∈ q.take j) → (fun σ' H' => ∃ (v3 : Option V) (ts : List Addr) (ns : List Nat), σ' = [some (.ref hd), some (.ref lf), some (.ref a), v3] ∧ Same H H' ∧ H' lf = some (.lst (ts.map V.ref)) ∧ RTs H' ts ns ∧ ns.Nodup ∧ ns.length ≤ 8 * i + (j + 1) ∧ ∀ n, n ∈ ns ↔ (∃ q ∈ qs.take i, some n ∈ q) ∨ some n ∈ q.take (j + 1)) [some (V.ref hd), some (.ref lf), some (.ref a), some y] H3 := fun e =>
          ⟨_, ts, ns, rfl, sm3, hl3, rt3, nd3, by omega, fun n => by rw [hm3, e]⟩
        by_cases hjx : j < xs.length
        · have hxj : xs[j]? = some xs[j] := List.getElem?_eq_getElem hjx
          have : y = xs[j] := by rw [row_get hxj] at hy; exact (Option.some.inj hy).symm
          subst this
          obtain ⟨o, ho, po⟩ := paired_at pq hxj
          have etk : q.take (j + 1) = q.take j ++ [o] := by rw [List.take_add_one, ho]; rfl
          rcases po.tups (same_tups sm3) with ⟨ey, rfl⟩ | ⟨n, rfl, hn, r⟩
          · rw [ey] at skip ⊢
            obtain ⟨ty, y1, _, _, _, k2, _⟩ := Sr.dp_ty (K := K) (H := H3) (.str "torn" : Dp K H3 torn (.str "torn"))
            refine ⟨_, rfl, _, _, ty, _, false, rfl, .ty "tuple", y1, k2, false, rfl, iteF (iteF (skip fun m => ?_))⟩
            rw [etk]; simp
          · obtain ⟨ty, y1, _, _, _, k2, _⟩ := Sr.dp_ty (K := K) (r.dp (K := K))
            refine ⟨_, rfl, _, _, ty, _, true, rfl, .ty "tuple", y1, k2, true, rfl, iteT ?_⟩
            refine ⟨_, rfl, _, rfl, _, _, r.dp, .lst (SqL.of hl3) (recs_dp rt3), rec_sh n, recs_sh ns, _, rfl, ?_⟩
            rw [recs_any]
            by_cases hin : n ∈ ns
            · rw [decide_eq_true hin]
              refine iteF ⟨_, ts, ns, rfl, sm3, hl3, rt3, nd3, by omega, fun m => ?_⟩
              rw [etk, List.mem_append, hm3]
              constructor
              · rintro (z | z)
                · exact .inl z
                · exact .inr (.inl z)
              · rintro (z | z | z)
                · exact .inl z
                · exact .inr z
                · have : m = n := by simpa using z
                  rw [this]; exact (hm3 n).mp hin
            · rw [decide_eq_false hin]
              obtain ⟨t, et, ht⟩ := r
              refine iteT ⟨_, rfl, .inl ⟨rfl, _, SqL.of hl3⟩, _, rfl, lf, _, _, rfl, rfl, hl3, small1000 (by rw [List.length_map, rt3.length]; omega), ?_⟩
              have t4 : Tups H3 (upd H3 lf (.lst (ts.map V.ref ++ [xs[j]]))) := Tups.lst hl3
              refine ⟨_, ts ++ [t], ns ++ [n], rfl, fun b o ho => ?_, ?_, ?_, ?_, ?_, fun m => ?_⟩
              · rw [upd_ne (ne_of_none ho hlf)]; exact sm3 _ _ ho
              · rw [upd_same, et, List.map_append]; rfl
              · exact Paired.app2 (Paired.imp2 (fun _ _ z => t4 _ _ z) rt3) (.cons (t4 _ _ ht) .nil)
              · rw [List.nodup_append]
                refine ⟨nd3, by simp, fun b hb c hc => ?_⟩
                rw [List.mem_singleton.mp hc]
                exact fun e => hin (by rw [← e]; exact hb)
              · rw [List.length_append, List.length_singleton]; omega
              · rw [List.mem_append, hm3, etk, List.mem_append]
                constructor
                · rintro ((z | z) | z)
                  · exact .inl z
                  · exact .inr (.inl z)
                  · exact .inr (.inr (by rw [List.mem_singleton.mp z]; simp))
                · rintro (z | z | z)
                  · exact .inl (.inl z)
                  · exact .inl (.inr z)
                  · exact .inr (by simpa using z)
        · have hyn : y = .non := by rw [row_non (by omega) hj8] at hy; exact (Option.some.inj hy).symm
          subst hyn
          obtain ⟨ty, y1, _, _, _, k2, _⟩ := Sr.dp_ty (K := K) (H := H3) (.non : Dp K H3 .non .none)
          refine ⟨_, rfl, _, _, ty, _, false, rfl, .ty "tuple", y1, k2, false, rfl, iteF (iteF (skip fun m => ?_))⟩
          have : q.length = xs.length := pq.length.symm
          rw [List.take_of_length_le (by omega), List.take_of_length_le (by omega)]
      · rintro σ' H3 ⟨v3', ts, ns, rfl, sm3, hl3, rt3, nd3, hnl3, hm3⟩
        rw [row_len h8] at hm3 hnl3
        refine ⟨_, _, ts, ns, rfl, sm3, hl3, rt3, nd3, by omega, fun n => ?_⟩
        rw [hm3, List.take_of_length_le (show q.length ≤ 8 by rw [← pq.length]; exact h8), List.take_add_one, hq]
        constructor
        · rintro (⟨q', hq', z⟩ | z)
          · exact ⟨q', List.mem_append.mpr (.inl hq'), z⟩
          · exact ⟨q, List.mem_append.mpr (.inr (by simp)), z⟩
        · rintro ⟨q', hq', z⟩
          rcases List.mem_append.mp hq' with m | m
          · exact .inl ⟨q', m, z⟩
          · have : q' = q := by simpa using m
            exact .inr (by rw [← this]; exact z)
    · rintro σ' H2 ⟨v2, v3, ts, ns, rfl, sm, hl2, rt, nd, hnl, hmem⟩
      rw [List.length_map, List.take_of_length_le (show qs.length ≤ hs.length by omega)] at hmem
      refine ⟨_, rfl, lf, ts, ns, rfl, SqL.of hl2, rt, nd, fun ts' ns' p rt' pw hm hp => ?_⟩
      have s3 := same_new (o := .lst (ts'.map V.ref)) hp
      exact k1 p _ (sm.trans s3) (sm.free hp) ⟨ts', ns', upd_same, Paired.imp2 (fun _ _ z => s3 _ _ z) rt', pw, fun n => (hm n).trans (hmem n)⟩
end
end Sg

set_option Elab.async false
set_option linter.all false
set_option maxRecDepth 100000
set_option maxHeartbeats 4000000
namespace Sg
open PySem PySem.Spec PyProof.Rows L2
theorem kit_self {K : PySem.W.Frag} {C : Addr} : PySem.W.kitOne K (.ref C) (.ref C) = some true := by
  unfold PySem.W.kitOne
  rw [if_pos (by simp)]
theorem str_eqT {x : Str} : decide (V.str x = V.str x) = true := decide_eq_true rfl
theorem str_eqF {x y : Str} (h : ¬ x = y) : decide (V.str x = V.str y) = false := decide_eq_false (fun z => h (by cases z; rfl))
theorem grid_some {H : Hp} {c : Addr} {as : List Addr} {ps : List (List V)} (g : Grid H c as ps) {a : Addr} (h : a ∈ as) : ∃ xs, H a = some (.lst xs) := by
  obtain ⟨i, hi⟩ := List.getElem?_of_mem h
  have hl := g.len
  have hi' : i < ps.length := by rw [← hl]; exact (List.getElem?_eq_some_iff.mp hi).1
  exact ⟨_, g.rows i a _ hi (List.getElem?_eq_getElem hi')⟩
theorem own_some {C CL : Addr} {H : Hp} {fl w c : Addr} {as : List Addr} {ws : List Int} {lg c2 : Addr} {as2 : List Addr} {ps : List (List V)} {rm : V} (W : WL C CL H fl w c as ws lg c2 as2 ps rm) : ∀ a ∈ own fl w c c2 as as2, ∃ o, H a = some o := by
  intro a ha
  unfold own at ha
  simp only [List.mem_cons, List.mem_append] at ha
  rcases ha with e | e | e | e | e | e
  · obtain ⟨dx, h⟩ := W.fa.ob
    exact ⟨_, by rw [e]; exact h⟩
  · exact ⟨_, by rw [e]; exact W.fa.wl⟩
  · exact ⟨_, by rw [e]; exact W.fa.gr.ls⟩
  · exact ⟨_, by rw [e]; exact W.lo.gr.ls⟩
  · obtain ⟨xs, h⟩ := grid_some W.fa.gr e
    exact ⟨_, h⟩
  · obtain ⟨xs, h⟩ := grid_some W.lo.gr e
    exact ⟨_, h⟩
/-- what lies outside of a set stays: the log and its flash -/
theorem WL.off {C CL : Addr} {H H' : Hp} {fl w c : Addr} {as : List Addr} {ws : List Int} {lg c2 : Addr} {as2 : List Addr} {ps : List (List V)} {rm : V} {xs : List Addr} (W : WL C CL H fl w c as ws lg c2 as2 ps rm) (o : Off xs H H') (t : Tups H H') (n : ∀ a ∈ own fl w c c2 as as2, a ∉ xs) (nl : lg ∉ xs) : WL C CL H' fl w c as ws lg c2 as2 ps rm := by
  have m1 : ∀ x ∈ fl :: w :: c :: as, x ∈ own fl w c c2 as as2 := fun x hx => by
    unfold own
    simp only [List.mem_cons, List.mem_append] at hx ⊢
    rcases hx with h | h | h | h
    · exact .inl h
    · exact .inr (.inl h)
    · exact .inr (.inr (.inl h))
    · exact .inr (.inr (.inr (.inr (.inl h))))
  have m2 : c2 ∈ own fl w c c2 as as2 := by unfold own; simp
  have m3 : ∀ a ∈ as2, a ∈ own fl w c c2 as as2 := fun a ha => by unfold own; simp [ha]
  have fa := W.fa.off o t fun x hx => n x (m1 x hx)
  exact ⟨fa, W.lo.off o t nl (n _ m2) (fun a ha => n a (m3 a ha)) fa.blk, W.n1, W.n2, W.n3⟩
theorem nextM_ok {ws : List Int} {ps : List (List V)} (h8 : ∀ xs ∈ ps, xs.length ≤ 8) (hne : blks ps "open" ≠ [] ∨ blks ps "free" ≠ []) : ∃ xs, ps[nextM ws ps]? = some xs ∧ xs.length < 8 := by
  have open8 : ∀ b ∈ blks ps "open", ∃ xs, ps[b]? = some xs ∧ xs.length < 8 := fun b hb => by
    obtain ⟨xs, e1, e2, e3, _⟩ := blks_mem hb
    refine ⟨xs, e1, ?_⟩
    have h := h8 xs (List.mem_of_getElem? e1)
    rcases Nat.lt_or_ge xs.length 8 with z | z
    · exact z
    · have : xs.length = 8 := by omega
      rw [this] at e2
      exact absurd e2 (by decide)
  have free0 : ∀ b ∈ blks ps "free", ∃ xs, ps[b]? = some xs ∧ xs.length < 8 := fun b hb => by
    obtain ⟨xs, e1, e2, e3, _⟩ := blks_mem hb
    refine ⟨xs, e1, ?_⟩
    unfold stS at e2
    by_cases z : xs.length = 0
    · omega
    · rw [if_neg z] at e2
      split at e2 <;> exact absurd e2 (by decide)
  unfold nextM
  cases ho : blks ps "open" with
  | cons b bs => exact open8 b (by rw [ho]; exact List.mem_cons_self)
  | nil =>
    have hfr := hne.resolve_left fun z => z ho
    dsimp only
    cases e : (blks ps "free").map fun b => ((ws.getD b 0 : Int), (b : Int)) with
    | nil => exact absurd (List.map_eq_nil_iff.mp e) hfr
    | cons k ks =>
      dsimp only
      have hm : minI k ks ∈ (blks ps "free").map fun b => ((ws.getD b 0 : Int), (b : Int)) := by
        rw [e]
        rcases (minI_le ks k).1 with z | z
        · rw [z]; exact List.mem_cons_self
        · exact List.mem_cons_of_mem _ z
      obtain ⟨b, hb, eb⟩ := List.mem_map.mp hm
      rw [← eb]
      simpa using free0 b hb
theorem tc_ {b : V} {σ : L2.St} {H : Hp} {Q : List V → Hp → Prop} (h : Q [b] H) : tCons (tC b) tNil σ H Q := h
theorem vs2 {p : Addr} {x y : Int} (h : x = y) : [V.ref p, V.int x] = [V.ref p, V.int y] := by rw [h]
theorem vs1 {x y : Int} (h : x = y) : [V.int x] = [V.int y] := by rw [h]
theorem ints_dp {K : PySem.W.Frag} {H : Hp} : ∀ {ns : List Int}, DpAll K H (ns.map V.int) (ns.map PyData.int)
  | [] => .nil
  | n :: ns => .cons (.int n) (ints_dp (ns := ns))
theorem ints_lay : ∀ ns : List Int, PyData.canLayAll0 (ns.map PyData.int) = true ∧ PyData.depthAll (ns.map PyData.int) = 0
  | [] => ⟨by simp [PyData.canLayAll0], by simp [PyData.depthAll]⟩
  | n :: ns => by
    obtain ⟨a, b⟩ := ints_lay ns
    exact ⟨by simp only [List.map_cons, PyData.canLayAll0, PyData.canLay0, a, Bool.and_self], by simp [PyData.depthAll, PyData.depth, b]⟩
theorem ints_sh (ns : List Int) : SeqAt.shaped (.list (ns.map PyData.int)) = true := shaped_list (ints_lay ns).1 (by have := (ints_lay ns).2; omega)
theorem paired_set {α β : Type} {F : α → β → Prop} : ∀ {a : List α} {b : List β} {i : Nat} {x : α} {y : β}, Paired F a b → F x y → Paired F (a.set i x) (b.set i y)
  | _, _, _, _, _, .nil, _ => .nil
  | _, _, 0, _, _, .cons _ t, h => .cons h t
  | _, _, i + 1, _, _, .cons r t, h => .cons r (paired_set t h)
theorem paired_D {α β : Type} {F : List α → List β → Prop} (h0 : F [] []) : ∀ {a : List (List α)} {b : List (List β)} (i : Nat), Paired F a b → F (a.getD i []) (b.getD i [])
  | _, _, _, .nil => h0
  | _, _, 0, .cons r _ => r
  | _, _, i + 1, .cons (l₁ := a) (l₂ := b) _ t => paired_D h0 (a := a) (b := b) i t
theorem psr_pos {H : Hp} : ∀ {ps : List (List V)} {qs : List (List (Option Nat))}, PsR H ps qs → ∀ q ∈ qs, ∀ n, some n ∈ q → 1 ≤ n
  | _, _, .nil, q, hq, _, _ => nomatch hq
  | _, _, .cons (a := xs) (b := q0) r t, q, hq, n, hn => by
    rcases List.mem_cons.mp hq with e | hq
    · rw [e] at hn
      have : ∀ {xs : List V} {q : List (Option Nat)}, Paired (PgR H) xs q → some n ∈ q → 1 ≤ n := by
        intro xs q h
        induction h with
        | nil => intro h; cases h
        | cons r t ih =>
          intro h
          rcases List.mem_cons.mp h with e | h
          · rcases r with ⟨_, z⟩ | ⟨k, z, hk, _⟩
            · rw [← e] at z; cases z
            · rw [← e] at z
              have := Option.some.inj z
              omega
          · exact ih h
      exact this r hn
    · exact psr_pos t q hq n hn
theorem ps_dps {K : PySem.W.Frag} {H : Hp} : ∀ {ps : List (List V)} {qs : List (List (Option Nat))}, PsR H ps qs → ∀ {cr : List Addr}, cr.length = ps.length → (∀ (i : Nat) (c : Addr) (vs : List V), cr[i]? = some c → ps[i]? = some vs → H c = some (.lst (row vs))) → DpAll K H (cr.map V.ref) (qs.map fun q => .list (rowD q))
  | _, _, .nil, cr, hl, _ => by
    cases cr with
    | nil => exact .nil
    | cons c cr => simp at hl
  | _, _, .cons (a := xs) r t, cr, hl, hc => by
    cases cr with
    | nil => simp at hl
    | cons c cr => exact .cons (.lst (SqL.of (hc 0 c xs rfl rfl)) (row_D r)) (ps_dps t (by simpa using hl) fun i b vs h1 h2 => hc (i + 1) b vs (by simpa using h1) (by simpa using h2))
theorem qs_lay : ∀ qs : List (List (Option Nat)), PyData.canLayAll0 (qs.map fun q => PyData.list (rowD q)) = true ∧ PyData.depthAll (qs.map fun q => PyData.list (rowD q)) ≤ 2
  | [] => ⟨by simp [PyData.canLayAll0], by simp [PyData.depthAll]⟩
  | q :: qs => by
    obtain ⟨a, b⟩ := qs_lay qs
    obtain ⟨c, d⟩ := rowD_lay q
    refine ⟨?_, ?_⟩
    · simp only [List.map_cons, PyData.canLayAll0, PyData.canLay0, a, c, Bool.and_self]
    · simp only [List.map_cons, PyData.depthAll, PyData.depth]; omega
theorem qs_sh (qs : List (List (Option Nat))) : SeqAt.shaped (.list (qs.map fun q => PyData.list (rowD q))) = true := shaped_list (qs_lay qs).1 (by have := (qs_lay qs).2; omega)
theorem img_cells {H : Hp} : ∀ {tr : List Addr} {ps : List (List V)}, tr.length = ps.length → (∀ (i : Nat) (t : Addr), tr[i]? = some t → ∃ (wv : Int) (c : Addr) (vs : List V), ps[i]? = some vs ∧ H t = some (.tup [.int wv, .ref c]) ∧ H c = some (.lst (row vs))) →
    ∃ cr : List Addr, cr.length = tr.length ∧ (∀ (i : Nat) (t c : Addr), tr[i]? = some t → cr[i]? = some c → ∃ wv : Int, H t = some (.tup [.int wv, .ref c])) ∧ ∀ (i : Nat) (c : Addr) (vs : List V), cr[i]? = some c → ps[i]? = some vs → H c = some (.lst (row vs))
  | [], _, _, _ => ⟨[], rfl, fun i t c h => by simp at h, fun i c vs h => by simp at h⟩
  | t :: tr, [], h, _ => by simp at h
  | t :: tr, p :: ps, hl, h => by
    obtain ⟨cr, e, f, g⟩ := img_cells (H := H) (tr := tr) (ps := ps) (by simpa using hl) fun i u hu => h (i + 1) u (by simpa using hu)
    obtain ⟨wv, c, vs, h1, h2, h3⟩ := h 0 t rfl
    have h1 : p = vs := by simpa using h1
    subst h1
    refine ⟨c :: cr, by simp [e], fun i u d hu hd => ?_, fun i d vs hd hv => ?_⟩
    · cases i with
      | zero =>
        have hu : t = u := by simpa using hu
        have hd : c = d := by simpa using hd
        subst hu hd
        exact ⟨wv, h2⟩
      | succ i => exact f i u d (by simpa using hu) (by simpa using hd)
    · cases i with
      | zero =>
        have hd : c = d := by simpa using hd
        have hv : p = vs := by simpa using hv
        subst hd hv
        exact h3
      | succ i => exact g i d vs (by simpa using hd) (by simpa using hv)
end Sg

set_option Elab.async false
set_option linter.all false
set_option maxRecDepth 100000
set_option maxHeartbeats 4000000
namespace Sg
open PySem PySem.Spec PyProof.Rows L2
def spSame (C CL : Addr) : Sp := fun vs H Q _ => ∃ lg fl c2 as2 ps pz qs hd hs, vs = [.ref lg, .ref hd] ∧ LogAt C CL H lg fl c2 as2 ps ∧ HeldAt H hd hs pz ∧ PsR H ps qs ∧ PsR H pz qs ∧ ∀ H', Same H H' → Q (.bl true) H'
def spReads (C CL : Addr) : Sp := fun vs H Q _ => ∃ lg fl c2 as2 ps pz qs hd hs, vs = [.ref lg, .ref hd] ∧ LogAt C CL H lg fl c2 as2 ps ∧ HeldAt H hd hs pz ∧ PsR H ps qs ∧ PsR H pz qs ∧ ∀ H', Same H H' → Q (.bl true) H'
def natsD (ns : List Nat) : PyData := .list (ns.map fun i : Nat => PyData.int (i : Int))
theorem nats_dp {K : PySem.W.Frag} {H : Hp} : ∀ {ns : List Nat}, DpAll K H (ns.map fun i : Nat => V.int (i : Int)) (ns.map fun i : Nat => PyData.int (i : Int))
  | [] => .nil
  | n :: ns => .cons (.int _) (nats_dp (ns := ns))
theorem nats_lay : ∀ ns : List Nat, PyData.canLayAll0 (ns.map fun i : Nat => PyData.int (i : Int)) = true ∧ PyData.depthAll (ns.map fun i : Nat => PyData.int (i : Int)) = 0
  | [] => ⟨by simp [PyData.canLayAll0], by simp [PyData.depthAll]⟩
  | n :: ns => by
    obtain ⟨a, b⟩ := nats_lay ns
    exact ⟨by simp only [List.map_cons, PyData.canLayAll0, PyData.canLay0, a, Bool.and_self], by simp [PyData.depthAll, PyData.depth, b]⟩
theorem nats_sh (ns : List Nat) : SeqAt.shaped (natsD ns) = true := shaped_list (nats_lay ns).1 (by have := (nats_lay ns).2; omega)
theorem nats_at {K : PySem.W.Frag} {H : Hp} {l : Addr} {ns : List Nat} (h : IntsAt H l ns) : Dp K H (.ref l) (natsD ns) := .lst (SqL.of h) nats_dp
theorem strict_one : ∀ {a b : List Nat}, a.Pairwise (· < ·) → b.Pairwise (· < ·) → (∀ n, n ∈ a ↔ n ∈ b) → a = b
  | [], [], _, _, _ => rfl
  | [], y :: b, _, _, h => by have := (h y).mpr List.mem_cons_self; cases this
  | x :: a, [], _, _, h => by have := (h x).mp List.mem_cons_self; cases this
  | x :: a, y :: b, ha, hb, h => by
    rw [List.pairwise_cons] at ha hb
    have e : x = y := by
      rcases List.mem_cons.mp ((h x).mp List.mem_cons_self) with z | z
      · exact z
      · rcases List.mem_cons.mp ((h y).mpr List.mem_cons_self) with w | w
        · exact w.symm
        · have := hb.1 x z
          have := ha.1 y w
          omega
    subst e
    rw [strict_one ha.2 hb.2 fun n => ?_]
    constructor
    · intro hn
      rcases List.mem_cons.mp ((h n).mp (List.mem_cons_of_mem _ hn)) with z | z
      · have := ha.1 n hn; omega
      · exact z
    · intro hn
      rcases List.mem_cons.mp ((h n).mpr (List.mem_cons_of_mem _ hn)) with z | z
      · have := hb.1 n hn; omega
      · exact z
def topN (l : List Nat) : Nat := l.foldl max 0
theorem topN_snoc (l : List Nat) (n : Nat) : topN (l ++ [n]) = max (topN l) n := by unfold topN; rw [List.foldl_append]; rfl
theorem foldl_max : ∀ (l : List Nat) (a : Nat), (∀ n ∈ l, n ≤ l.foldl max a) ∧ a ≤ l.foldl max a ∧ (l.foldl max a = a ∨ l.foldl max a ∈ l)
  | [], a => ⟨(fun n h => nomatch h), Nat.le_refl _, .inl rfl⟩
  | x :: l, a => by
    obtain ⟨h1, h2, h3⟩ := foldl_max l (max a x)
    refine ⟨fun n hn => ?_, by show a ≤ l.foldl max (max a x); omega, ?_⟩
    · show n ≤ l.foldl max (max a x)
      rcases List.mem_cons.mp hn with z | z
      · omega
      · exact h1 n z
    · show l.foldl max (max a x) = a ∨ l.foldl max (max a x) ∈ x :: l
      rcases h3 with z | z
      · rw [z]
        by_cases y : a ≤ x
        · exact .inr (by rw [show max a x = x by omega]; exact List.mem_cons_self)
        · exact .inl (by omega)
      · exact .inr (List.mem_cons_of_mem _ z)
theorem topN_le {l : List Nat} {n : Nat} (h : n ∈ l) : n ≤ topN l := (foldl_max l 0).1 n h
theorem topN_mem (l : List Nat) : topN l = 0 ∨ topN l ∈ l := (foldl_max l 0).2.2
theorem psr_lens {H : Hp} : ∀ {ps : List (List V)} {qs : List (List (Option Nat))}, PsR H ps qs → ps.map List.length = qs.map List.length
  | _, _, .nil => rfl
  | _, _, .cons r t => by rw [List.map_cons, List.map_cons, r.length, psr_lens t]
theorem getD_len (ps : List (List V)) (b : Nat) : (ps.getD b []).length = (ps.map List.length).getD b 0 := by
  rw [List.getD_eq_getElem?_getD, List.getD_eq_getElem?_getD, List.getElem?_map]
  cases ps[b]? <;> rfl
theorem blks_lens {ps pz : List (List V)} (h : ps.map List.length = pz.map List.length) (s : Str) : blks ps s = blks pz s := by
  have hl : ps.length = pz.length := by have := congrArg List.length h; simpa using this
  have e : stB ps s = stB pz s := by
    funext b
    unfold stB
    rw [getD_len, getD_len, h]
  unfold blks
  rw [hl, e]
theorem room_len {ps pz : List (List V)} (h : ps.map List.length = pz.map List.length) (cp : Bool) : roomM ps cp = roomM pz cp := by
  have e : lenB ps = lenB pz := by
    funext b
    unfold lenB
    rw [getD_len, getD_len, h]
  unfold roomM sumOpen
  rw [blks_lens h, blks_lens h, e]
theorem next_len {ps pz : List (List V)} (h : ps.map List.length = pz.map List.length) (ws : List Int) : nextM ws ps = nextM ws pz := by
  unfold nextM
  rw [blks_lens h, blks_lens h]
section
variable {P : Program} {wd : World} {K : PySem.W.Frag} {mg : Str → Option Value} {base : Heap} {f C CL CN CP CS CB CR fW fB fSt fPa fFr fCl fRo fLs fLr fFo fRc fTp fHo : Addr} {fd fdSt fdPa fdFr fdCl fdRo fdLs fdLr fdFo fdRc fdTp fdHo : FuncData}
theorem scSame : FnScope ["log","held","block"] ["log","held"] (defScope sSame) := ⟨rfl, rfl, rfl, by decide +kernel, rfl, by decide +kernel, by decide +kernel⟩
theorem ok_same (F : Fun K "_law_same" "_law_same" sSame f fd) (T : FT K mg C CN CP CS fW fB) (Y : LT K mg CL) (GS : MDef P wd K mg base (L2.CX P wd) CL "state" 4 ["self", "block"] (spState C CL CN) fSt fdSt) (GP : MDef P wd K mg base (L2.CX P wd) CL "pages" 3 ["self", "block"] (spPages C CL CN) fPa fdPa)
    (GF : MDef P wd K mg base CX0 CL "free_blocks" 6 ["self"] (spBlk1 C CL "free") fFr fdFr) (GC : MDef P wd K mg base CX0 CL "closed_blocks" 6 ["self"] (spBlk1 C CL "closed") fCl fdCl) (GO : MDef P wd K mg base CX0 CL "room" 7 ["self","is_copy"] (spRoom C CL) fRo fdRo)
    (GL : Def P wd K mg base CX0 "_law_state" 2 ["held","block"] spLState fLs fdLs) (GR : Def P wd K mg base CX0 "_law_room" 3 ["held","is_copy"] spLRoom fLr fdLr) : FnOk P wd K mg base CX0 8 f fd ["log","held"] (spSame C CL) := by
  refine F.ok scSame (fun vs H Q E h => ?_) (fun cdv A outer s H vs Q E hr h => ?_)
  · obtain ⟨lg, fl, c2, as2, ps, pz, qs, hd, hs, rfl, _⟩ := h
    rfl
  · obtain ⟨lg, fl, c2, as2, ps, pz, qs, hd, hs, rfl, L, HE, PQ, PZ, k1⟩ := h
    have hlens : pz.map List.length = ps.map List.length := (psr_lens PZ).trans (psr_lens PQ).symm
    have hpz : pz.length = ps.length := by have := congrArg List.length hlens; simpa using this
    have hr2 : Room 2 _ := hr.mono (by decide)
    have hr3 : Room 3 _ := hr.mono (by decide)
    have hr4 : Room 4 _ := hr.mono (by decide)
    have hr6 : Room 6 _ := hr.mono (by decide)
    refine ⟨_, (pss_cons (ps_for PassesOwn.never rfl (pi_range1 (by rfl) T.bt.range (pa_cons (pe_callB call_len_seq (by rfl) T.bt.len PySem.boot_len (pa_cons (pv 1) pa_nil)) pa_nil)) (pg_name (i := 2) scSame.nd rfl (Or.inl rfl))
      (pss_one (ps_if (PW.pt (pw_or (pt_cmpR op_ne (pe_meth (pv 0) Y.cl GS.me GS.ok hr4 GS.bd .nil passL (pa_cons (pv 2) pa_nil)) (pe_call GL.ok hr2 (by rfl) GL.mg GL.kp GL.bd .nil pass0 (pa_cons (pv 1) (pa_cons (pv 2) pa_nil))) (nomark _)) (pw_or1 (pt_cmpR (op_neD hr.units) (pe_meth (pv 0) Y.cl GP.me GP.ok hr3 GP.bd .nil passL (pa_cons (pv 2) pa_nil)) (pe_ix ix_list (pv 1) (pv 2) (fun _ _ => rfl)) (nomark _)))))
      (pss_one (ps_ret pe_bl)) pss_nil)))
      (pss_cons (ps_if (pt_cmpR (op_neD hr.units) (pe_meth0 (pv 0) Y.cl GF.me GF.ok hr6 GF.bd .nil pass0) (pe_lc (own := [("block", 2)]) (g := gName 2) (tt := tTest (tOp rEq (tCall spLState [] E0 (tCons (tVar 1) (tCons (tVar 2) tNil))) (tC (.str "free")))) (te := tVar 2) (by rfl) scSame.nd (pi_range1 (by rfl) T.bt.range (pa_cons (pe_callB call_len_seq (by rfl) T.bt.len PySem.boot_len (pa_cons (pv 1) pa_nil)) pa_nil)) (blkOk_by (own := [("block", 2)]) (N := ["log", "held", "block"]) (sc := defScope sSame) (by decide +kernel)) (fun _ _ _ _ _ => pg_name (i := 2) scSame.nd rfl (Or.inl rfl)) (fun _ _ _ _ _ => pts_one (pt_cmpR op_eq (pe_call GL.ok hr2 (by rfl) GL.mg GL.kp GL.bd .nil pass0 (pa_cons (pv 1) (pa_cons (pv 2) pa_nil))) pe_str (nomark _))) (fun _ _ _ _ _ => by exact (pv 2))) (nomark _))
      (pss_one (ps_ret pe_bl)) pss_nil)
      (pss_cons (ps_if (pt_cmpR (op_neD hr.units) (pe_meth0 (pv 0) Y.cl GC.me GC.ok hr6 GC.bd .nil pass0) (pe_lc (own := [("block", 2)]) (g := gName 2) (tt := tTest (tOp rEq (tCall spLState [] E0 (tCons (tVar 1) (tCons (tVar 2) tNil))) (tC (.str "closed")))) (te := tVar 2) (by rfl) scSame.nd (pi_range1 (by rfl) T.bt.range (pa_cons (pe_callB call_len_seq (by rfl) T.bt.len PySem.boot_len (pa_cons (pv 1) pa_nil)) pa_nil)) (blkOk_by (own := [("block", 2)]) (N := ["log", "held", "block"]) (sc := defScope sSame) (by decide +kernel)) (fun _ _ _ _ _ => pg_name (i := 2) scSame.nd rfl (Or.inl rfl)) (fun _ _ _ _ _ => pts_one (pt_cmpR op_eq (pe_call GL.ok hr2 (by rfl) GL.mg GL.kp GL.bd .nil pass0 (pa_cons (pv 1) (pa_cons (pv 2) pa_nil))) pe_str (nomark _))) (fun _ _ _ _ _ => by exact (pv 2))) (nomark _))
      (pss_one (ps_ret pe_bl)) pss_nil)
      (pss_one (ps_ret (pe_and (pe_cmpR op_eq (pe_meth (pv 0) Y.cl GO.me GO.ok hr GO.bd .nil pass0 (pa_cons pe_bl pa_nil)) (pe_call GR.ok hr3 (by rfl) GR.mg GR.kp GR.bd .nil pass0 (pa_cons (pv 1) (pa_cons pe_bl pa_nil))) (nomark _)) (pe_one (pe_cmpR op_eq (pe_meth (pv 0) Y.cl GO.me GO.ok hr GO.bd .nil pass0 (pa_cons pe_bl pa_nil)) (pe_call GR.ok hr3 (by rfl) GR.mg GR.kp GR.bd .nil pass0 (pa_cons (pv 1) (pa_cons pe_bl pa_nil))) (nomark _))))))))), ?_⟩
    obtain ⟨dx, hob⟩ := id L.ob
    have hle := HE.le
    have hgl := HE.gr.len
    refine ⟨_, rfl, hd, _, rfl, .inl (SqL.of HE.gr.ls), _, rfl, by rw [List.length_map]; omega, by rw [List.length_map]; omega, ?_⟩
    rw [show (((hs.map V.ref).length : Int)).toNat = ps.length by rw [List.length_map]; omega]
    refine for_range (lo := 0) (fun i σ' H' => ∃ v2 : Option V, σ' = [some (.ref lg), some (.ref hd), v2] ∧ Same H H') ⟨none, rfl, Same.refl H⟩ ?_ ?_
    · rintro i σ' H1 hi ⟨v2, rfl, s1⟩
      have hx : ps[i]? = some ps[i] := List.getElem?_eq_getElem hi
      have hz : pz[i]? = some (pz[i]'(by omega)) := List.getElem?_eq_getElem _
      obtain ⟨q, hq, pq⟩ := paired_at PQ hx
      obtain ⟨q2, hq2, pq2⟩ := paired_at PZ hz
      rw [hq] at hq2
      have hq2 : q = q2 := Option.some.inj hq2
      subst hq2
      have elen : (pz[i]'(by omega)).length = ps[i].length := by rw [pq.length, pq2.length]
      have e0 : (0 : Int) + (i : Int) = (i : Int) := by omega
      refine ⟨_, rfl, lg, dx, _, rfl, s1 _ _ hob, lf_no (by decide +kernel), _, rfl, lg, fl, c2, as2, ps, _, rfl, L.same s1, fun j xs ej hj H2 s2 => ?_, fun hn => absurd ⟨by omega, by omega⟩ hn⟩
      have : j = i := by omega
      subst this
      rw [hx] at hj; cases hj
      refine ⟨_, rfl, _, rfl, hd, hs, pz, _, rfl, (HE.same s1).same s2, j, _, by omega, hz, rfl, _, rfl, ?_⟩
      rw [elen, str_eqT]
      refine iteF ?_
      have s12 := s1.trans s2
      refine ⟨_, rfl, lg, dx, _, rfl, s12 _ _ hob, lf_no (by decide +kernel), _, rfl, lg, fl, c2, as2, ps, _, rfl, L.same s12, fun j' xs' ej' hj' l H3 hl s3 hrow => ?_, fun hn => absurd ⟨by omega, by omega⟩ hn⟩
      have : j' = j := by omega
      subst this
      rw [hx] at hj'; cases hj'
      have s13 := s12.trans s3
      obtain ⟨a, ha, hrow2⟩ := (HE.same s13).gr.at hz
      have sh := rowD_sh q
      refine ⟨_, rfl, _, rfl, hd, _, _, _, rfl, rfl, SqL.of (HE.same s13).gr.ls, (by rw [e0]; exact atI_nat (get_map ha)), .list (rowD q), .list (rowD q), .lst (SqL.of hrow) (row_D (Paired.imp2 (fun _ _ z => z.tups (same_tups s13)) pq)), .lst (SqL.of hrow2) (row_D (Paired.imp2 (fun _ _ z => z.tups (same_tups s13)) pq2)), sh, sh, _, rfl, ?_⟩
      rw [SeqAt.eqv_refl _ (SeqAt.canLay_of_shaped sh)]
      exact iteF ⟨_, rfl, s13⟩
    · rintro σ' H1 ⟨v2, rfl, s1⟩
      have hcomp : ∀ (w : Str) (H2 : Hp) (Qd : Hp → Prop), Same H H2 → ∀ D, H2 D = Option.none → (∀ H', Same H2 H' → IntsAt H' D (blks ps w) → Qd H') → True := fun _ _ _ _ _ _ _ => trivial
      refine ⟨_, rfl, lg, dx, _, rfl, s1 _ _ hob, lf_no (by decide +kernel), lg, fl, c2, as2, ps, rfl, L.same s1, fun l H2 hl s2 hi => ?_⟩
      have s12 := s1.trans s2
      refine ⟨_, rfl, hd, _, rfl, .inl (SqL.of (HE.same s12).gr.ls), _, rfl, by rw [List.length_map]; omega, by rw [List.length_map]; omega, fun D hD => ?_⟩
      rw [show (((hs.map V.ref).length : Int)).toNat = ps.length by rw [List.length_map]; omega]
      refine lc_rngF (stB pz "free") hD (fun _ => rfl) (by omega) (fun i H' Q' hi' sm q' => ?_) (fun i H' Q' hi' q' => ⟨_, rfl, q'⟩) fun H3 s3 hDl => ?_
      · have hvs : pz[i]? = some (pz[i]'(by omega)) := List.getElem?_eq_getElem _
        refine ⟨_, rfl, _, rfl, hd, hs, pz, _, rfl, (HE.same s12).same sm, i, _, by omega, hvs, rfl, _, rfl, ?_⟩
        rw [lstate_tt hvs]
        exact q' H' (Same.refl H')
      have s13 := s12.trans s3
      refine ⟨_, _, nats_at (K := K) (s3 _ _ hi), nats_at (K := K) (ns := blks ps "free") (by have h := hDl; rw [show ((List.range ps.length).filter (stB pz "free")) = blks ps "free" by rw [← hpz]; exact blks_lens hlens _] at h; exact h), nats_sh _, nats_sh _, _, rfl, ?_⟩
      rw [SeqAt.eqv_refl _ (SeqAt.canLay_of_shaped (nats_sh _))]
      refine iteF ?_
      refine ⟨_, rfl, lg, dx, _, rfl, s13 _ _ hob, lf_no (by decide +kernel), lg, fl, c2, as2, ps, rfl, L.same s13, fun l' H4 hl' s4 hi' => ?_⟩
      have s14 := s13.trans s4
      refine ⟨_, rfl, hd, _, rfl, .inl (SqL.of (HE.same s14).gr.ls), _, rfl, by rw [List.length_map]; omega, by rw [List.length_map]; omega, fun D' hD' => ?_⟩
      rw [show (((hs.map V.ref).length : Int)).toNat = ps.length by rw [List.length_map]; omega]
      refine lc_rngF (stB pz "closed") hD' (fun _ => rfl) (by omega) (fun i H' Q' hi' sm q' => ?_) (fun i H' Q' hi' q' => ⟨_, rfl, q'⟩) fun H5 s5 hDl' => ?_
      · have hvs : pz[i]? = some (pz[i]'(by omega)) := List.getElem?_eq_getElem _
        refine ⟨_, rfl, _, rfl, hd, hs, pz, _, rfl, (HE.same s14).same sm, i, _, by omega, hvs, rfl, _, rfl, ?_⟩
        rw [lstate_tt hvs]
        exact q' H' (Same.refl H')
      have s15 := s14.trans s5
      refine ⟨_, _, nats_at (K := K) (s5 _ _ hi'), nats_at (K := K) (ns := blks ps "closed") (by have h := hDl'; rw [show ((List.range ps.length).filter (stB pz "closed")) = blks ps "closed" by rw [← hpz]; exact blks_lens hlens _] at h; exact h), nats_sh _, nats_sh _, _, rfl, ?_⟩
      rw [SeqAt.eqv_refl _ (SeqAt.canLay_of_shaped (nats_sh _))]
      refine iteF ?_
      refine ⟨_, rfl, lg, dx, _, rfl, s15 _ _ hob, lf_no (by decide +kernel), lg, fl, c2, as2, ps, true, rfl, L.same s15, fun H6 s6 => ?_⟩
      have s16 := s15.trans s6
      refine ⟨_, rfl, hd, hs, pz, true, rfl, HE.same s16, fun H7 s7 => ⟨rfl, _, rfl, ?_⟩⟩
      rw [room_len hlens, decide_eq_true (rfl : V.int (roomM ps true) = V.int (roomM ps true))]
      have s17 := s16.trans s7
      refine iteT ?_
      refine ⟨_, rfl, lg, dx, _, rfl, s17 _ _ hob, lf_no (by decide +kernel), lg, fl, c2, as2, ps, false, rfl, L.same s17, fun H8 s8 => ?_⟩
      have s18 := s17.trans s8
      refine ⟨_, rfl, hd, hs, pz, false, rfl, HE.same s18, fun H9 s9 => ⟨rfl, ?_⟩⟩
      rw [room_len hlens, decide_eq_true (rfl : V.int (roomM ps false) = V.int (roomM ps false))]
      exact k1 H9 (s18.trans s9)
theorem scReads : FnScope ["log","held","found","told","top","record","block"] ["log","held"] (defScope sReads) := ⟨rfl, rfl, rfl, by decide +kernel, rfl, by decide +kernel, by decide +kernel⟩
theorem ok_reads (F : Fun K "_law_reads" "_law_reads" sReads f fd) (T : FT K mg C CN CP CS fW fB) (Y : LT K mg CL) (mm : mg "max" = none) (GF : Def P wd K mg base CX0 "_law_found" 1 ["held"] spFound fFo fdFo) (GR : MDef P wd K mg base CX0 CL "records" 6 ["self"] (spRecords C CL) fRc fdRc)
    (GT : MDef P wd K mg base CX0 CL "top" 7 ["self"] (spTop C CL) fTp fdTp) (GH : MDef P wd K mg base CX0 CL "holders" 1 ["self","record"] (spHolders C CL) fHo fdHo) : FnOk P wd K mg base CX0 8 f fd ["log","held"] (spReads C CL) := by
  refine F.ok scReads (fun vs H Q E h => ?_) (fun cdv A outer s H vs Q E hr h => ?_)
  · obtain ⟨lg, fl, c2, as2, ps, pz, qs, hd, hs, rfl, _⟩ := h
    rfl
  · obtain ⟨lg, fl, c2, as2, ps, pz, qs, hd, hs, rfl, L, HE, PQ, PZ, k1⟩ := h
    have hzl := PZ.length
    have hr1 : Room 1 _ := hr.mono (by decide)
    have hr6 : Room 6 _ := hr.mono (by decide)
    refine ⟨_, (pss_cons (ps_set (i := 2) scReads.nd rfl (Or.inl rfl) (pe_call GF.ok hr1 (by rfl) GF.mg GF.kp GF.bd .nil pass0 (pa_cons (pv 1) pa_nil)))
      (pss_cons (ps_set (i := 3) scReads.nd rfl (Or.inl rfl) (pe_meth0 (pv 0) Y.cl GR.me GR.ok hr6 GR.bd .nil pass0))
      (pss_cons (ps_if (PW.pt (pw_or (pt_not (pt_val (pe_callB call_isi (by rfl) T.bd.isi boot_isi (pa_cons (pv 3) (pa_cons (pe_bltn (v := .ty "list") (by rfl) T.lst boot_list rfl) pa_nil))))) (pw_or1 (pt_cmpR (op_neD hr.units) (pv 3) (pv 2) (nomark _)))))
      (pss_one (ps_ret pe_bl)) pss_nil)
      (pss_cons (ps_set (i := 4) scReads.nd rfl (Or.inl rfl) pe_int)
      (pss_cons (ps_for PassesOwn.never rfl (pi_list (pv 2)) (pg_name (i := 5) scReads.nd rfl (Or.inr rfl))
      (pss_cons (ps_set (i := 4) scReads.nd rfl (Or.inl rfl) (pe_callB (call_max2 rfl) (by rfl) mm (by decide +kernel) (pa_cons (pv 4) (pa_cons (pe_ix ix_tup (pv 5) pe_int (fun _ _ => rfl)) pa_nil))))
      (pss_one (ps_if (pt_cmpR (op_neD hr.units) (pe_meth (pv 0) Y.cl GH.me GH.ok hr1 GH.bd .nil pass0 (pa_cons (pv 5) pa_nil)) (pe_lc (own := [("block", 6)]) (g := gName 6) (tt := tTest (tOp (rInD K) (tVar 5) (tOp (rIxL K) (tVar 1) (tVar 6)))) (te := tVar 6) (by rfl) scReads.nd (pi_range1 (by rfl) T.bt.range (pa_cons (pe_callB call_len_seq (by rfl) T.bt.len PySem.boot_len (pa_cons (pv 1) pa_nil)) pa_nil)) (blkOk_by (own := [("block", 6)]) (N := ["log", "held", "found", "told", "top", "record", "block"]) (sc := defScope sReads) (by decide +kernel)) (fun _ _ _ _ _ => pg_name (i := 6) scReads.nd rfl (Or.inl rfl)) (fun _ _ _ _ _ => pts_one (pt_cmpR (op_inD (hu65 hr)) (pv 5) (pe_ix ix_list (pv 1) (pv 6) (fun _ _ => rfl)) (by rfl))) (fun _ _ _ _ _ => by exact (pv 6))) (nomark _))
      (pss_one (ps_ret pe_bl)) pss_nil))))
      (pss_one (ps_ret (pe_cmpR op_eq (pe_meth0 (pv 0) Y.cl GT.me GT.ok hr GT.bd .nil pass0) (pv 4) (nomark _))))))))), ?_⟩
    obtain ⟨dx, hob⟩ := id L.ob
    have hle := HE.le
    have hgl := HE.gr.len
    have hql := PQ.length
    refine ⟨_, rfl, hd, hs, pz, qs, rfl, HE, PZ, fun lf H1 s1 hlf ra => ?_⟩
    refine ⟨_, rfl, lg, dx, _, rfl, s1 _ _ hob, lf_no (by decide +kernel), lg, fl, c2, as2, ps, qs, rfl, L.same s1, PQ.tups (same_tups s1), fun lt H2 s2 hlt ra2 => ?_⟩
    obtain ⟨ts, ns, f1, f2, f3, f4⟩ := ra
    obtain ⟨ts2, ns2, g1, g2, g3, g4⟩ := ra2
    obtain rfl : ns2 = ns := strict_one g3 f3 fun n => (g4 n).trans (f4 n).symm
    have s12 := s1.trans s2
    have f1' := s2 _ _ f1
    have f2' : RTs H2 ts ns2 := Paired.imp2 (fun _ _ z => s2 _ _ z) f2
    have dt : Dp K H2 (.ref lt) (.list (ns2.map recDt)) := .lst (SqL.of g1) (recs_dp g2)
    have df : Dp K H2 (.ref lf) (.list (ns2.map recDt)) := .lst (SqL.of f1') (recs_dp f2')
    obtain ⟨tl, tyl, _, _, _, _, hkl⟩ := Sr.dp_ty dt
    refine ⟨_, rfl, .ref lt, _, tl, _, true, rfl, .ty "list", tyl, hkl, true, rfl, iteF ?_⟩
    refine ⟨_, rfl, _, rfl, _, _, dt, df, recs_sh _, recs_sh _, _, rfl, ?_⟩
    rw [SeqAt.eqv_refl _ (SeqAt.canLay_of_shaped (recs_sh _))]
    refine iteF ?_
    refine ⟨_, rfl, lf, rfl, ⟨_, SqL.of f1'⟩, ?_⟩
    have hlen := f2'.length
    refine for_list (K := K) (a := lf) (xs := ts.map V.ref) (fun i σ' H' => ∃ v5 : Option V, σ' = [some (.ref lg), some (.ref hd), some (.ref lf), some (.ref lt), some (.int (topN (ns2.take i) : Int)), v5, none] ∧ Same H2 H') ⟨none, rfl, Same.refl H2⟩ (fun i σ' H' _ ⟨_, _, sm⟩ => SqL.of (sm _ _ f1')) ?_ ?_
    · rintro i x σ' H3 hx ⟨v5, rfl, sm⟩
      obtain ⟨t, hti, rfl⟩ := map_get hx
      obtain ⟨n, hni, htn⟩ := paired_at f2' hti
      have htn3 := sm _ _ htn
      have s13 := s12.trans sm
      have etop : (if (n : Int) > (topN (ns2.take i) : Int) then (n : Int) else (topN (ns2.take i) : Int)) = (topN (ns2.take (i + 1)) : Int) := by
        rw [List.take_add_one, hni, show (some n).toList = [n] from rfl, topN_snoc]
        split <;> omega
      refine ⟨_, rfl, _, rfl, t, _, _, _, rfl, rfl, SqT.of htn3, atI_nat (j := 0) rfl, _, _, rfl, ?_⟩
      rw [etop]
      refine ⟨_, rfl, lg, dx, _, rfl, s13 _ _ hob, lf_no (by decide +kernel), _, rfl, lg, fl, c2, as2, ps, qs, .ref t, n, rfl, L.same s13, PQ.tups (same_tups s13), ⟨t, rfl, htn3⟩, fun l4 H4 s4 hl4 hi4 => ?_⟩
      have s14 := s13.trans s4
      refine ⟨_, rfl, hd, _, rfl, .inl (SqL.of (HE.same s14).gr.ls), _, rfl, by rw [List.length_map]; omega, by rw [List.length_map]; omega, fun D hD => ?_⟩
      rw [show (((hs.map V.ref).length : Int)).toNat = qs.length by rw [List.length_map]; omega]
      refine lc_rngF (fun b => decide (some n ∈ qs.getD b [])) hD (fun _ => rfl) (by omega) (fun k H' Q' hk sm' q' => ?_) (fun k H' Q' hk q' => ⟨_, rfl, q'⟩) fun H5 s5 hDl => ?_
      · have hvs : pz[k]? = some (pz[k]'(by omega)) := List.getElem?_eq_getElem _
        have s15 := s14.trans sm'
        obtain ⟨a, ha, hrow⟩ := (HE.same s15).gr.at hvs
        obtain ⟨q, hq, pq⟩ := paired_at (PZ.tups (same_tups s15)) hvs
        have eq : qs.getD k [] = q := by rw [List.getD_eq_getElem?_getD, hq]; rfl
        have e0 : (0 : Int) + (k : Int) = (k : Int) := by omega
        have rt : RecT H' (.ref t) n := ⟨t, rfl, sm' _ _ (s4 _ _ htn3)⟩
        refine ⟨_, rfl, _, rfl, _, rfl, hd, _, _, _, rfl, rfl, SqL.of (HE.same s15).gr.ls, (by rw [e0]; exact atI_nat (get_map ha)), _, _, rt.dp, .lst (SqL.of hrow) (row_D pq), rec_sh n, rowD_sh q, _, rfl, ?_⟩
        rw [rowD_any, ← eq]
        exact q' H' (Same.refl H')
      refine ⟨_, _, nats_at (K := K) (s5 _ _ hi4), nats_at (K := K) (ns := holdL qs n) hDl, nats_sh _, nats_sh _, _, rfl, ?_⟩
      rw [SeqAt.eqv_refl _ (SeqAt.canLay_of_shaped (nats_sh _))]
      exact iteF ⟨_, rfl, sm.trans (s4.trans s5)⟩
    · rintro σ' H3 ⟨v5, rfl, sm⟩
      rw [List.length_map, hlen, List.take_length]
      have s13 := s12.trans sm
      refine ⟨_, rfl, lg, dx, _, rfl, s13 _ _ hob, lf_no (by decide +kernel), lg, fl, c2, as2, ps, qs, rfl, L.same s13, PQ.tups (same_tups s13), fun m H4 s4 hmax hmem => ⟨_, rfl, rfl, ?_⟩⟩
      have em : m = topN ns2 := by
        have h1 : topN ns2 ≤ m := by
          rcases topN_mem ns2 with z | z
          · omega
          · obtain ⟨q, hq, h⟩ := (f4 _).mp z
            exact hmax q hq _ h
        rcases hmem with z | ⟨q, hq, h⟩
        · omega
        · have := topN_le ((f4 m).mpr ⟨q, hq, h⟩)
          omega
      rw [em, decide_eq_true (rfl : V.int (topN ns2 : Int) = V.int (topN ns2 : Int))]
      exact k1 H4 (s13.trans s4)
end
end Sg

set_option Elab.async false
set_option linter.all false
set_option maxRecDepth 100000
set_option maxHeartbeats 4000000
namespace Sg
open PySem PySem.Spec PyProof.Rows L2
/-! ### the records of a block that no other block has -/
def elseM (qs : List (List (Option Nat))) (b n : Nat) : Bool := (List.range qs.length).any fun o => !decide (o = b) && decide (some n ∈ qs.getD o [])
def loneN (el : Nat → Bool) (q : List (Option Nat)) : List Nat := q.filterMap fun o => o.bind fun n => if el n = true then none else some n
theorem row_nonA {xs : List V} {i : Nat} (h : xs.length ≤ i) (h8 : i < 8) : (row xs)[i]? = some .non := by
  unfold row
  rw [List.getElem?_append_right h, List.getElem?_replicate, if_pos (by omega)]
theorem lc_lone {K : PySem.W.Frag} {σ : L2.St} {H1 : Hp} {D a : Addr} {vs : List Nat} {j : Nat} {tt : TT} {te : TE} {Qd : Hp → Prop} (xs : List V) (q : List (Option Nat)) (el : Nat → Bool) (hD : H1 D = Option.none) (hrow : H1 a = some (.lst (row xs))) (pq : Paired (PgR H1) xs q) (h8 : xs.length ≤ 8)
    (hw : ∀ x, wipe ((wipe σ vs).set j (some x)) vs = wipe σ vs)
    (he1 : ∀ (v : V) (H' : Hp) (Q' : Bool → Hp → Prop), (v = torn ∨ v = .non) → Same H1 H' → Q' false H' → tt ((wipe σ vs).set j (some v)) H' Q')
    (he2 : ∀ (t : Addr) (n : Nat) (H' : Hp) (Q' : Bool → Hp → Prop), 1 ≤ n → Same H1 H' → RecT H' (.ref t) n → (∀ H'', Same H' H'' → Q' (!el n) H'') → tt ((wipe σ vs).set j (some (.ref t))) H' Q')
    (hv : ∀ (v : V) (H' : Hp) (Q' : VK), Q' v H' → te ((wipe σ vs).set j (some v)) H' Q')
    (hd : ∀ (H' : Hp) (ts : List Addr), Same H1 H' → H' D = some (.lst (ts.map V.ref)) → RTs H' ts (loneN el q) → Qd H') :
    ∃ W : Nat → Nat → Hp → Prop, (∃ m, W 0 m (upd H1 D (.lst []))) ∧ ∀ i m H, W i m H →
      ((Itl K a).stop i H ∧ Qd H) ∨ ((Itl K a).go i H ∧ ∃ Nx : Hp → Prop, (∀ H', Nx H' → ∃ m', m' < m ∧ W (i + 1) m' H') ∧ ∀ x H', (Itl K a).yld i H x H' → gName j x (wipe σ vs) H' fun σ2 H2 => wipe σ2 vs = wipe σ vs ∧ tt σ2 H2 fun b H3 =>
        if b = true then te σ2 H3 fun y H4 => ∃ acc, H4 D = some (.lst acc) ∧ acc.length < sizeLine ∧ Nx (upd H4 D (.lst (acc ++ [y]))) else Nx H3) := by
  have hql := pq.length
  refine lc_list (K := K) (a := a) (xs := row xs) (fun i H' => i ≤ 8 ∧ Same H1 H' ∧ ∃ ts : List Addr, H' D = some (.lst (ts.map V.ref)) ∧ ts.length ≤ i ∧ RTs H' ts (loneN el (q.take i))) ⟨by omega, same_new hD, [], upd_same, Nat.le_refl _, by rw [List.take_zero]; exact .nil⟩ (fun i H' _ ⟨_, sm, _⟩ => SqL.of (sm _ _ hrow)) ?_ ?_
  · rintro i x H' hi ⟨_, sm, ts, hDl, htl, rt⟩
    have hi8 : i < 8 := by have := (List.getElem?_eq_some_iff.mp hi).1; rw [row_len h8] at this; exact this
    refine ⟨hw _, ?_⟩
    have skip : ∀ H'', Same H' H'' → loneN el (q.take (i + 1)) = loneN el (q.take i) → (i + 1 ≤ 8 ∧ Same H1 H'' ∧ ∃ ts : List Addr, H'' D = some (.lst (ts.map V.ref)) ∧ ts.length ≤ i + 1 ∧ RTs H'' ts (loneN el (q.take (i + 1)))) := fun H'' s2 e =>
      ⟨by omega, sm.trans s2, ts, s2 _ _ hDl, by omega, by rw [e]; exact Paired.imp2 (fun _ _ z => s2 _ _ z) rt⟩
    by_cases hix : i < xs.length
    · have hxi : xs[i]? = some xs[i] := List.getElem?_eq_getElem hix
      have hx : x = xs[i] := by rw [row_get hxi] at hi; exact (Option.some.inj hi).symm
      obtain ⟨o, ho, po⟩ := paired_at pq hxi
      rw [← hx] at po
      have etk : q.take (i + 1) = q.take i ++ [o] := by rw [List.take_add_one, ho]; rfl
      have el1 : loneN el (q.take (i + 1)) = loneN el (q.take i) ++ loneN el [o] := by rw [etk]; unfold loneN; rw [List.filterMap_append]
      rcases po.tups (same_tups sm) with ⟨ex, rfl⟩ | ⟨n, rfl, hn, r⟩
      · refine he1 x H' _ (.inl ex) sm ?_
        rw [if_neg Bool.false_ne_true]
        exact skip H' (Same.refl _) (by rw [el1]; simp [loneN])
      · obtain ⟨t, rfl, ht⟩ := r
        refine he2 t n H' _ hn sm ⟨t, rfl, ht⟩ fun H'' s2 => ?_
        cases hel : el n with
        | true =>
          rw [show (!true) = false from rfl, if_neg Bool.false_ne_true]
          exact skip H'' s2 (by rw [el1]; simp [loneN, hel])
        | false =>
          rw [show (!false) = true from rfl, if_pos rfl]
          have hD2 := s2 _ _ hDl
          refine hv _ H'' _ ⟨_, hD2, small1000 (by rw [List.length_map]; omega), by omega, ?_, ts ++ [t], ?_, by rw [List.length_append]; simp; omega, ?_⟩
          · intro y o hy'
            rw [upd_ne (ne_of_none hy' hD)]
            exact s2 _ _ (sm _ _ hy')
          · rw [upd_same, List.map_append]; rfl
          · have e2 : loneN el (q.take (i + 1)) = loneN el (q.take i) ++ [n] := by rw [el1]; simp [loneN, hel]
            rw [e2]
            have t2 : Tups H'' (upd H'' D (.lst (ts.map V.ref ++ [V.ref t]))) := Tups.lst hD2
            exact paired_snoc (Paired.imp2 (fun _ _ z => t2 _ _ (s2 _ _ z)) rt) (t2 _ _ (s2 _ _ ht))
    · have hx : x = .non := by rw [row_nonA (by omega) hi8] at hi; exact (Option.some.inj hi).symm
      refine he1 x H' _ (.inr hx) sm ?_
      rw [if_neg Bool.false_ne_true]
      refine skip H' (Same.refl _) ?_
      rw [List.take_of_length_le (by omega), List.take_of_length_le (by omega)]
  · rintro H' ⟨_, sm, ts, hDl, _, rt⟩
    rw [row_len h8, List.take_of_length_le (by omega)] at rt
    exact hd H' ts sm hDl rt
def spElse : Sp := fun vs H Q _ => ∃ hd hs pz qs j pgv n, vs = [.ref hd, .int ((j : Nat) : Int), pgv] ∧ HeldAt H hd hs pz ∧ PsR H pz qs ∧ RecT H pgv n ∧ Q (.bl (elseM qs j n)) H
def spSpare : Sp := fun vs H Q _ => ∃ hd hs pz qs, vs = [.ref hd] ∧ HeldAt H hd hs pz ∧ PsR H pz qs ∧ (∀ H', (∀ (b : Nat) (xs : List V) (q : List (Option Nat)), pz[b]? = some xs → qs[b]? = some q → stS xs.length = "closed" → loneN (elseM qs b) q ≠ []) → Same H H' → Q .non H') ∧
  ∀ (b : Nat) (xs : List V) (q : List (Option Nat)) (H' : Hp), Same H H' → pz[b]? = some xs → qs[b]? = some q → stS xs.length = "closed" → loneN (elseM qs b) q = [] → Q (.int (b : Int)) H'
section
variable {P : Program} {wd : World} {K : PySem.W.Frag} {mg : Str → Option Value} {base : Heap} {f C CL CN CP CS CB CR fW fB fLs fEl : Addr} {fd fdLs fdEl : FuncData}
theorem scElse : FnScope ["held","block","page","other"] ["held","block","page"] (defScope sElse) := ⟨rfl, rfl, rfl, by decide +kernel, rfl, by decide +kernel, by decide +kernel⟩
theorem ok_else (F : Fun K "_law_elsewhere" "_law_elsewhere" sElse f fd) (T : FT K mg C CN CP CS fW fB) : FnOk P wd K mg base CX0 1 f fd ["held","block","page"] spElse := by
  refine F.ok scElse (fun vs H Q E h => ?_) (fun cdv A outer s H vs Q E hr h => ?_)
  · obtain ⟨hd, hs, pz, qs, j, pgv, n, rfl, _⟩ := h
    rfl
  · obtain ⟨hd, hs, pz, qs, j, pgv, n, rfl, HE, PZ, rt, k⟩ := h
    refine ⟨_, (pss_cons (ps_for PassesOwn.never rfl (pi_range1 (by rfl) T.bt.range (pa_cons (pe_callB call_len_seq (by rfl) T.bt.len PySem.boot_len (pa_cons (pv 0) pa_nil)) pa_nil)) (pg_name (i := 3) scElse.nd rfl (Or.inl rfl))
      (pss_one (ps_if (PW.pt (pw_and (pt_cmpR op_ne (pv 3) (pv 1) (nomark _)) (pw_and1 (pt_cmpR (op_inD (hu65 hr)) (pv 2) (pe_ix ix_list (pv 0) (pv 3) (fun _ _ => rfl)) (by rfl)))))
      (pss_one (ps_ret pe_bl)) pss_nil)))
      (pss_one (ps_ret pe_bl))), ?_⟩
    have hgl := HE.gr.len
    have hle := HE.le
    have hql := PZ.length
    refine ⟨_, rfl, hd, _, rfl, .inl (SqL.of HE.gr.ls), _, rfl, by rw [List.length_map]; omega, by rw [List.length_map]; omega, ?_⟩
    rw [show (((hs.map V.ref).length : Int)).toNat = qs.length by rw [List.length_map]; omega]
    refine for_range (lo := 0) (fun i σ' H' => ∃ v3 : Option V, σ' = [some (.ref hd), some (.int (j : Int)), some pgv, v3] ∧ H' = H ∧ ∀ o, o < i → ¬ (o ≠ j ∧ some n ∈ qs.getD o [])) ⟨none, rfl, rfl, fun o ho => absurd ho (by omega)⟩ ?_ ?_
    · rintro i σ' H' hi ⟨v3, rfl, rfl, hno⟩
      have e0 : (0 : Int) + (i : Int) = (i : Int) := by omega
      refine ⟨_, rfl, _, rfl, rfl, _, rfl, ?_⟩
      by_cases hij : i = j
      · rw [show (!decide (V.int (0 + (i : Int)) = V.int (j : Int))) = false by rw [e0, hij]; simp]
        refine iteF (iteF ⟨_, rfl, rfl, fun o ho => ?_⟩)
        rcases Nat.lt_or_ge o i with z | z
        · exact hno o z
        · exact fun ⟨h1, _⟩ => h1 (by omega)
      · rw [show (!decide (V.int (0 + (i : Int)) = V.int (j : Int))) = true by rw [e0]; simp; omega]
        refine iteT ?_
        have hz : pz[i]? = some (pz[i]'(by omega)) := List.getElem?_eq_getElem _
        obtain ⟨a, ha, hrow⟩ := HE.gr.at hz
        obtain ⟨q, hq, pq⟩ := paired_at PZ hz
        have eq : qs.getD i [] = q := by rw [List.getD_eq_getElem?_getD, hq]; rfl
        refine ⟨_, rfl, _, rfl, _, rfl, hd, _, _, _, rfl, rfl, SqL.of HE.gr.ls, (by rw [e0]; exact atI_nat (get_map ha)), _, _, rt.dp, .lst (SqL.of hrow) (row_D pq), rec_sh n, rowD_sh q, _, rfl, ?_⟩
        rw [rowD_any, ← eq]
        by_cases hm : some n ∈ qs.getD i []
        · rw [decide_eq_true hm]
          refine iteT ?_
          have : elseM qs j n = true := by
            unfold elseM
            rw [List.any_eq_true]
            exact ⟨i, List.mem_range.mpr hi, by show (!decide (i = j) && decide (some n ∈ qs.getD i [])) = true; rw [decide_eq_true hm, decide_eq_false hij]; rfl⟩
          rw [this] at k
          exact k
        · rw [decide_eq_false hm]
          refine iteF ⟨_, rfl, rfl, fun o ho => ?_⟩
          rcases Nat.lt_or_ge o i with z | z
          · exact hno o z
          · rw [show o = i by omega]; exact fun ⟨_, h2⟩ => hm h2
    · rintro σ' H' ⟨v3, rfl, rfl, hno⟩
      have : elseM qs j n = false := by
        unfold elseM
        rw [List.any_eq_false]
        intro o ho z
        have ho := List.mem_range.mp ho
        simp only [Bool.and_eq_true, Bool.not_eq_true', decide_eq_false_iff_not, decide_eq_true_eq] at z
        exact hno o ho z
      rw [this] at k
      exact k
end
end Sg

set_option Elab.async false
set_option linter.all false
set_option maxRecDepth 100000
set_option maxHeartbeats 4000000
namespace Sg
open PySem PySem.Spec PyProof.Rows L2
theorem nil_sh : SeqAt.shaped (.list []) = true := by decide +kernel
theorem recs_nil (ns : List Nat) : PyData.eqv (.list (ns.map recDt)) (.list []) = decide (ns = []) := by
  cases ns with
  | nil => exact SeqAt.eqv_refl _ (SeqAt.canLay_of_shaped nil_sh)
  | cons n ns => rw [decide_eq_false (by simp)]; simp [PyData.eqv, PyData.eqvAll]
/-- the test of the comprehension that lists the records which no other block has -/
abbrev tLone (K : PySem.W.Frag) (bl pg : Nat) : TT := tAnd (tB (tCB (rIsi K) (tCons (tVar pg) (tCons (tC (.ty "tuple")) tNil)))) (tNot (tB (tCall (spElse) [] E0 (tCons (tVar 0) (tCons (tVar bl) (tCons (tVar pg) tNil))))))
theorem lone_no {K : PySem.W.Frag} {σ : L2.St} {H : Hp} {bl pg : Nat} {v : V} {Q : Bool → Hp → Prop} (hp : σ[pg]? = some (some v)) (h : v = torn ∨ v = .non) (q : Q false H) : tLone K bl pg σ H Q := by
  rcases h with e | e
  · obtain ⟨ty, y1, _, _, _, k2, _⟩ := Sr.dp_ty (K := K) (H := H) (.str "torn" : Dp K H torn (.str "torn"))
    rw [e] at hp
    exact ⟨_, hp, _, _, ty, _, false, rfl, .ty "tuple", y1, k2, false, rfl, iteF q⟩
  · obtain ⟨ty, y1, _, _, _, k2, _⟩ := Sr.dp_ty (K := K) (H := H) (.non : Dp K H .non .none)
    rw [e] at hp
    exact ⟨_, hp, _, _, ty, _, false, rfl, .ty "tuple", y1, k2, false, rfl, iteF q⟩
theorem lone_yes {K : PySem.W.Frag} {σ : L2.St} {H : Hp} {bl pg : Nat} {t hd : Addr} {hs : List Addr} {pz : List (List V)} {qs : List (List (Option Nat))} {n b : Nat} {z : Int} {Q : Bool → Hp → Prop} (h0 : σ[0]? = some (some (.ref hd))) (hb : σ[bl]? = some (some (.int z))) (hz : z = (b : Int)) (hp : σ[pg]? = some (some (.ref t))) (r : RecT H (.ref t) n)
    (HE : HeldAt H hd hs pz) (PZ : PsR H pz qs) (q : Q (!elseM qs b n) H) : tLone K bl pg σ H Q := by
  subst hz
  obtain ⟨ty, y1, _, _, _, k2, _⟩ := Sr.dp_ty (K := K) (r.dp (K := K))
  refine ⟨_, hp, _, _, ty, _, true, rfl, .ty "tuple", y1, k2, true, rfl, iteT ?_⟩
  exact ⟨_, h0, _, hb, _, hp, hd, hs, pz, qs, b, .ref t, n, rfl, HE, PZ, r, _, rfl, q⟩
section
variable {P : Program} {wd : World} {K : PySem.W.Frag} {mg : Str → Option Value} {base : Heap} {f C CL CN CP CS CB CR fW fB fLs fEl fFo : Addr} {fd fdLs fdEl fdFo : FuncData}
theorem scSpare : FnScope ["held","block","lone","page"] ["held"] (defScope sSpare) := ⟨rfl, rfl, rfl, by decide +kernel, rfl, by decide +kernel, by decide +kernel⟩
theorem ok_spare (F : Fun K "_law_spare" "_law_spare" sSpare f fd) (T : FT K mg C CN CP CS fW fB) (GS : Def P wd K mg base CX0 "_law_state" 2 ["held","block"] spLState fLs fdLs) (GE : Def P wd K mg base CX0 "_law_elsewhere" 1 ["held","block","page"] spElse fEl fdEl) : FnOk P wd K mg base CX0 3 f fd ["held"] spSpare := by
  refine F.ok scSpare (fun vs H Q E h => ?_) (fun cdv A outer s H vs Q E hr h => ?_)
  · obtain ⟨hd, hs, pz, qs, rfl, _⟩ := h
    rfl
  · obtain ⟨hd, hs, pz, qs, rfl, HE, PZ, k0, k1⟩ := h
    have hr1 : Room 1 _ := hr.mono (by decide)
    have hr2 : Room 2 _ := hr
    refine ⟨_, (pss_cons (ps_for PassesOwn.never rfl (pi_range1 (by rfl) T.bt.range (pa_cons (pe_callB call_len_seq (by rfl) T.bt.len PySem.boot_len (pa_cons (pv 0) pa_nil)) pa_nil)) (pg_name (i := 1) scSpare.nd rfl (Or.inr rfl))
      (pss_one (ps_if (pt_cmpR op_eq (pe_call GS.ok hr2 (by rfl) GS.mg GS.kp GS.bd .nil pass0 (pa_cons (pv 0) (pa_cons (pv 1) pa_nil))) pe_str (nomark _))
      (pss_cons (ps_setLc (i := 2) (own := [("page", 3)]) (g := gName 3) (tt := tAnd (tB (tCB (rIsi K) (tCons (tVar 3) (tCons (tC (.ty "tuple")) tNil)))) (tNot (tB (tCall (spElse) [] E0 (tCons (tVar 0) (tCons (tVar 1) (tCons (tVar 3) tNil))))))) (te := tVar 3) (by rfl) scSpare.nd rfl rfl (sw_true rfl rfl rfl (by decide +kernel)) (pi_list (pe_ix ix_list (pv 0) (pv 1) (fun _ _ => rfl))) (blkOk_by (own := [("page", 3)]) (N := ["held", "block", "lone", "page"]) (sc := defScope sSpare) (by decide +kernel)) (fun _ _ _ _ _ => pg_name (i := 3) scSpare.nd rfl (Or.inl rfl)) (fun _ _ _ _ _ => pts_one (PW.pt (pw_and (pt_val (pe_callB call_isi (by rfl) T.bd.isi boot_isi (pa_cons (pv 3) (pa_cons (pe_bltn (v := .ty "tuple") (by rfl) T.tup boot_tuple rfl) pa_nil)))) (pw_and1 (pt_not (pt_val (pe_call GE.ok hr1 (by rfl) GE.mg GE.kp GE.bd .nil pass0 (pa_cons (pv 0) (pa_cons (pv 1) (pa_cons (pv 3) pa_nil)))))))))) (fun _ _ _ _ _ => by exact (pv 3)))
      (pss_one (ps_if (pt_cmpR (op_eqD hr.units) (pv 2) (pe_lst pa_nil) (nomark _))
      (pss_one (ps_ret (pv 1))) pss_nil))) pss_nil)))
      (pss_one (ps_ret pe_non))), ?_⟩
    have hgl := HE.gr.len
    have hle := HE.le
    refine ⟨_, rfl, hd, _, rfl, .inl (SqL.of HE.gr.ls), _, rfl, by rw [List.length_map]; omega, by rw [List.length_map]; omega, ?_⟩
    rw [show (((hs.map V.ref).length : Int)).toNat = pz.length by rw [List.length_map]; omega]
    refine for_range (lo := 0) (fun i σ' H' => ∃ v1 v2 : Option V, σ' = [some (.ref hd), v1, v2, none] ∧ Same H H' ∧ ∀ (b : Nat) (xs : List V) (q : List (Option Nat)), b < i → pz[b]? = some xs → qs[b]? = some q → stS xs.length = "closed" → loneN (elseM qs b) q ≠ []) ⟨none, none, rfl, Same.refl H, fun b xs q hb => absurd hb (by omega)⟩ ?_ ?_
    · rintro i σ' H1 hi ⟨v1, v2, rfl, s1, hno⟩
      have more : (∀ (q : List (Option Nat)), qs[i]? = some q → stS pz[i].length = "closed" → loneN (elseM qs i) q ≠ []) → ∀ (b : Nat) (xs : List V) (q : List (Option Nat)), b < i + 1 → pz[b]? = some xs → qs[b]? = some q → stS xs.length = "closed" → loneN (elseM qs b) q ≠ [] := fun h b xs q hb h1 h2 h3 => by
        by_cases hbi : b < i
        · exact hno b xs q hbi h1 h2 h3
        · have : b = i := by omega
          subst this
          rw [List.getElem?_eq_getElem hi] at h1
          cases h1
          exact h q h2 h3
      have e0 : (0 : Int) + (i : Int) = (i : Int) := by omega
      have hx : pz[i]? = some pz[i] := List.getElem?_eq_getElem hi
      refine ⟨_, rfl, _, rfl, hd, hs, pz, _, rfl, HE.same s1, i, pz[i], by omega, hx, rfl, _, rfl, ?_⟩
      by_cases hcl : stS pz[i].length = "closed"
      rotate_left
      · rw [decide_eq_false (show ¬ V.str (stS pz[i].length) = V.str "closed" from fun z => hcl (by injection z))]
        exact iteF ⟨_, _, rfl, s1, more fun q _ z => absurd z hcl⟩
      rw [decide_eq_true (show V.str (stS pz[i].length) = V.str "closed" by rw [hcl])]
      refine iteT ?_
      obtain ⟨a, ha, hrow⟩ := (HE.same s1).gr.at hx
      obtain ⟨q, hq, pq⟩ := paired_at (PZ.tups (same_tups s1)) hx
      have h8 := (HE.pg _ (List.mem_of_getElem? hx)).1
      refine ⟨_, rfl, _, rfl, hd, _, _, _, rfl, rfl, SqL.of (HE.same s1).gr.ls, (by rw [e0]; exact atI_nat (get_map ha)), a, rfl, ⟨_, SqL.of hrow⟩, fun D hD => ?_⟩
      refine lc_lone (K := K) pz[i] q (elseM qs i) hD hrow pq h8 (fun _ => rfl) (fun v H' Q' hv sm q' => lone_no rfl hv q') (fun t n H' Q' hn sm r q' => lone_yes (b := i) rfl rfl e0 rfl r (HE.same (s1.trans sm)) (PZ.tups (same_tups (s1.trans sm))) (q' H' (Same.refl _))) (fun v H' Q' q' => ⟨_, rfl, q'⟩) fun H2 ts s2 hDl rt => ?_
      refine ⟨_, rfl, by show 0 ≤ sizeLine; decide, fun l hl => ?_⟩
      have s3 := same_new (o := .lst []) hl
      refine ⟨.list ((loneN (elseM qs i) q).map recDt), .list [], .lst (SqL.of (s3 _ _ hDl)) (recs_dp (Paired.imp2 (fun _ _ z => s3 _ _ z) rt)), .lst (SqL.of upd_same) .nil, recs_sh _, nil_sh, _, rfl, ?_⟩
      rw [recs_nil]
      have s13 := s1.trans (s2.trans s3)
      by_cases hl0 : loneN (elseM qs i) q = []
      · rw [decide_eq_true hl0]
        refine iteT ⟨_, rfl, ?_⟩
        have := k1 i pz[i] q _ s13 hx hq hcl hl0
        rw [← e0] at this
        exact this
      · rw [decide_eq_false hl0]
        exact iteF ⟨_, _, rfl, s13, more fun q' hq' _ => by rw [hq] at hq'; cases hq'; exact hl0⟩
    · rintro σ' H1 ⟨v1, v2, rfl, s1, hno⟩
      exact k0 H1 (fun b xs q h1 => hno b xs q (List.getElem?_eq_some_iff.mp h1).1 h1) s1
end
end Sg

set_option Elab.async false
set_option linter.all false
set_option maxRecDepth 100000
set_option maxHeartbeats 4000000
namespace Sg
open PySem PySem.Spec PyProof.Rows L2
/-- the law's own copy of the pages and the wears -/
structure LH (H : Hp) (hd : Addr) (hs : List Addr) (pz : List (List V)) (wl : Addr) (ws : List Int) : Prop where
  gr : Grid H hd hs pz
  pg : Pgs H pz
  wr : H wl = some (.lst (ws.map V.int))
  lw : ws.length = pz.length
  n4 : wl ≠ hd
  n5 : wl ∉ hs
theorem LH.same {H H' : Hp} {hd : Addr} {hs : List Addr} {pz : List (List V)} {wl : Addr} {ws : List Int} (L : LH H hd hs pz wl ws) (s : Same H H') : LH H' hd hs pz wl ws := ⟨L.gr.same s, L.pg.mono (same_tups s), s _ _ L.wr, L.lw, L.n4, L.n5⟩
theorem strict_len {m : Nat} : ∀ {ns : List Nat}, ns.Pairwise (· < ·) → (∀ n ∈ ns, n ≤ m) → ∀ {a : Nat}, (∀ n ∈ ns, a ≤ n) → ns.length + a ≤ m + 1 ∨ ns = []
  | [], _, _, _, _ => .inr rfl
  | n :: ns, h, h2, a, h3 => by
    rw [List.pairwise_cons] at h
    have e1 := h2 n List.mem_cons_self
    have e2 := h3 n List.mem_cons_self
    rcases strict_len h.2 (fun k hk => h2 k (List.mem_cons_of_mem _ hk)) (a := n + 1) (fun k hk => h.1 k hk) with z | z
    · exact .inl (by rw [List.length_cons]; omega)
    · subst z
      exact .inl (by simp; omega)
def spOrders : Sp := fun vs H Q _ => ∃ hd hs pz qs, vs = [.ref hd] ∧ HeldAt H hd hs pz ∧ PsR H pz qs ∧ (∀ q ∈ qs, ∀ n, some n ∈ q → n ≤ 500) ∧ ∀ (l : Addr) (ns : List Nat) (H' : Hp), Same H H' → H' l = some (.lst (ns.map fun n : Nat => V.int (n : Int))) → ns.Pairwise (· < ·) → (∀ n, n ∈ ns ↔ ∃ q ∈ qs, some n ∈ q) → Q (.ref l) H'
def spApply : Sp := fun vs H Q _ => ∃ hd hs pz wl ws act j cv, vs = [.ref hd, .ref wl, .str act, .int ((j : Nat) : Int), cv] ∧ LH H hd hs pz wl ws ∧ pz.length ≤ 100 ∧
  ((act = "append" ∧ PgN H cv ∧ ∃ xs, pz[j]? = some xs ∧ xs.length < 8 ∧ ∀ H', LH H' hd hs (pz.set j (xs ++ [cv])) wl ws → Off (hd :: wl :: hs) H H' → Tups H H' → Q .non H') ∨
   (act = "erase" ∧ (cv = .non ∨ PgN H cv) ∧ ∃ wv, ws[j]? = some wv ∧ ∀ q H', H q = Option.none → LH H' hd (hs.set j q) (pz.set j (era cv)) wl (ws.set j (wv + 1)) → Off (hd :: wl :: hs) H H' → Tups H H' → Q .non H'))
def spDo (C CL CP : Addr) : Sp := fun vs H Q _ => ∃ fl w c as ws lg c2 as2 ps rm act what cp, vs = [.ref lg, .str act, what, .bl cp] ∧ WL C CL H fl w c as ws lg c2 as2 ps rm ∧ (rm = .non ∨ ∃ r, rm = .int r) ∧
  ((act = "append" ∧ RecP H what ∧ roomM ps cp ≠ 0 ∧
     (rm = .int 0 → ∀ t H', H t = Option.none → H' t = some (.tup [.int (nextM ws ps : Int), .int ((ps.getD (nextM ws ps) []).length : Int), what]) → FlashAt C H' fl w c as ws ps false (.int 0) (.ref t) → Off [fl] H H' → Tups H H' → Q (.bl false) H') ∧
     (rm ≠ .int 0 → ∀ H', WL C CL H' fl w c as ws lg c2 as2 (addM ws ps what) (remAfter rm) → Off (own fl w c c2 as as2) H H' → Tups H H' → Q (.bl true) H')) ∨
   (act = "erase" ∧ ∃ (j : Nat) (xs : List V) (wv : Int), what = .int (j : Int) ∧ ps[j]? = some xs ∧ stS xs.length = "closed" ∧ ws[j]? = some wv ∧
     (rm = .int 0 → ∀ t H', H t = Option.none → H' t = some (.tup [.int (j : Int), .non, .non]) → FlashAt C H' fl w c as ws ps false (.int 0) (.ref t) → Off [fl] H H' → Tups H H' → Q (.bl false) H') ∧
     (rm ≠ .int 0 → ∀ as' as2' H', WL C CL H' fl w c as' (ws.set j (wv + 1)) lg c2 as2' (ps.set j []) (remAfter rm) → Off (own fl w c c2 as as2) H H' → Tups H H' → (∀ a ∈ own fl w c c2 as' as2', a ∈ own fl w c c2 as as2 ∨ H a = Option.none) → Q (.bl true) H')))
section
variable {P : Program} {wd : World} {K : PySem.W.Frag} {mg : Str → Option Value} {base : Heap} {f C CL CN CP CS CB CR fW fB fLs fEl fFo fUs fAp fEr : Addr} {fd fdLs fdEl fdFo fdUs fdAp fdEr : FuncData}
theorem scOrders : FnScope ["held","record"] ["held"] (defScope sOrders) := ⟨rfl, rfl, rfl, by decide +kernel, rfl, by decide +kernel, by decide +kernel⟩
theorem ok_orders (F : Fun K "_law_orders" "_law_orders" sOrders f fd) (T : FT K mg C CN CP CS fW fB) (GF : Def P wd K mg base CX0 "_law_found" 1 ["held"] spFound fFo fdFo) : FnOk P wd K mg base CX0 2 f fd ["held"] spOrders := by
  refine F.ok scOrders (fun vs H Q E h => ?_) (fun cdv A outer s H vs Q E hr h => ?_)
  · obtain ⟨hd, hs, pz, qs, rfl, _⟩ := h
    rfl
  · obtain ⟨hd, hs, pz, qs, rfl, HE, PZ, hM, k⟩ := h
    have hr1 : Room 1 _ := hr
    refine ⟨_, (pss_one (ps_ret (pe_lc (own := [("record", 1)]) (g := gName 1) (tt := tYes) (te := tOp (rIxT K) (tVar 1) (tC (.int 0))) (by rfl) scOrders.nd (pi_list (pe_call GF.ok hr1 (by rfl) GF.mg GF.kp GF.bd .nil pass0 (pa_cons (pv 0) pa_nil))) (blkOk_by (own := [("record", 1)]) (N := ["held", "record"]) (sc := defScope sOrders) (by decide +kernel)) (fun _ _ _ _ _ => pg_name (i := 1) scOrders.nd rfl (Or.inl rfl)) (fun _ _ _ _ _ => pts_nil) (fun _ _ _ _ _ => by exact (pe_ix ix_tup (pv 1) pe_int (fun _ _ => rfl)))))), ?_⟩
    refine ⟨_, rfl, hd, hs, pz, qs, rfl, HE, PZ, fun lf H1 s1 hlf ra => ?_⟩
    obtain ⟨ts, ns, f1, f2, f3, f4⟩ := ra
    have hl := f2.length
    refine ⟨lf, rfl, ⟨_, SqL.of f1⟩, fun D hD => ?_⟩
    refine lc_mapS (ns.map fun n : Nat => V.int (n : Int)) (by simp [hl]) hD (SqL.of f1) (fun _ => rfl) ?_ (fun i x y H' Q' hx hy sm q' => ?_) fun H2 s2 hDl => ?_
    · rw [List.length_map, hl]
      rcases strict_len (m := 500) f3 (fun n hn => by obtain ⟨q, hq, h⟩ := (f4 n).mp hn; exact hM q hq n h) (a := 0) (fun n _ => Nat.zero_le _) with z | z
      · omega
      · rw [z]; simp
    · obtain ⟨t, ht, rfl⟩ := map_get hx
      obtain ⟨n, hn, rfl⟩ := map_get hy
      obtain ⟨n', hn', htn⟩ := paired_at f2 ht
      rw [hn] at hn'
      have hn' : n = n' := Option.some.inj hn'
      subst hn'
      exact ⟨_, rfl, t, _, _, _, rfl, rfl, SqT.of (sm _ _ htn), atI_nat (j := 0) rfl, q' H' (Same.refl _)⟩
    · exact k D ns H2 (s1.trans s2) hDl f3 f4
theorem scApply : FnScope ["held","wears","act","block","content"] ["held","wears","act","block","content"] (defScope sApply) := ⟨rfl, rfl, rfl, by decide +kernel, rfl, by decide +kernel, by decide +kernel⟩
theorem ok_apply (F : Fun K "_law_apply" "_law_apply" sApply f fd) (T : FT K mg C CN CP CS fW fB) (GU : Def P wd K mg base CX0 "_law_used" 1 ["pages"] spUsed fUs fdUs) : FnOk P wd K mg base CX0 2 f fd ["held","wears","act","block","content"] spApply := by
  refine F.ok scApply (fun vs H Q E h => ?_) (fun cdv A outer s H vs Q E hr h => ?_)
  · obtain ⟨hd, hs, pz, wl, ws, act, j, cv, rfl, _⟩ := h
    rfl
  · obtain ⟨hd, hs, pz, wl, ws, act, j, cv, rfl, L, hle, k⟩ := h
    have hr1 : Room 1 _ := hr
    refine ⟨_, (pss_one (ps_if (pt_cmpR op_eq (pv 2) pe_str (nomark _))
      (pss_one (ps_asg (pv 4) (pg_sub (pe_ix ix_list (pv 0) (pv 3) (fun _ _ => rfl)) (pe_call GU.ok hr1 (by rfl) GU.mg GU.kp GU.bd .nil pass0 (pa_cons (pe_ix ix_list (pv 0) (pv 3) (fun _ _ => rfl)) pa_nil)) set_list))) (pss_cons (ps_asg (pe_op op_rep (pe_lst (pa_cons (pv 4) pa_nil)) pe_int) (pg_sub (pv 0) (pv 3) set_list))
      (pss_one (ps_asg (pe_op op_add (pe_ix ix_list (pv 1) (pv 3) (fun _ _ => rfl)) pe_int) (pg_sub (pv 1) (pv 3) set_list)))))), ?_⟩
    have hgl := L.gr.len
    refine ⟨_, rfl, rfl, _, rfl, ?_⟩
    rcases k with ⟨rfl, hcv, xs, hxs, hx8, k⟩ | ⟨rfl, hcv, wv, hwv, k⟩
    · rw [str_eqT]
      refine iteT ?_
      obtain ⟨x, hx, hrow⟩ := L.gr.at hxs
      have hxm := List.mem_of_getElem? hx
      have hpg := L.pg _ (List.mem_of_getElem? hxs)
      refine ⟨_, rfl, _, rfl, _, rfl, hd, _, _, _, rfl, rfl, SqL.of L.gr.ls, atI_nat (get_map hx), _, rfl, _, rfl, hd, _, _, _, rfl, rfl, SqL.of L.gr.ls, atI_nat (get_map hx), nil_ ⟨x, xs, rfl, hrow, hpg, x, _, _, xs.length, rfl, rfl, hrow, Evl.ixN_nat (by rw [row_len (by omega)]; exact hx8), ?_⟩⟩
      rw [row_set hx8]
      have t3 : Tups H (upd H x (.lst (row (xs ++ [cv])))) := Tups.lst hrow
      have nwx : wl ≠ x := fun e => L.n5 (by rw [e]; exact hxm)
      refine k _ ⟨L.gr.prog hx upd_same (fun y o hy ho => by rw [upd_ne hy]; exact ho), ?_, by rw [upd_ne nwx]; exact L.wr, by rw [List.length_set]; exact L.lw, L.n4, L.n5⟩ (off_upd (List.mem_cons_of_mem _ (List.mem_cons_of_mem _ hxm))) t3
      refine Pgs.set (L.pg.mono t3) ⟨by rw [List.length_append, List.length_singleton]; omega, fun v hv => ?_⟩
      rcases List.mem_append.mp hv with z | z
      · exact (hpg.mono t3).2 v z
      · rw [List.mem_singleton.mp z]; exact hcv.mono t3
    · rw [str_eqF (by decide)]
      refine iteF ?_
      have hj : j < ws.length := (List.getElem?_eq_some_iff.mp hwv).1
      have hlw := L.lw
      refine ⟨_, rfl, by show 1 ≤ sizeLine; decide, fun l hl => ⟨l, 8, [cv], rfl, rfl, upd_same, by decide, by decide, by show 8 ≤ sizeLine; decide, fun q hq => ?_⟩⟩
      rw [show (List.replicate (8 : Int).toNat [cv]).flatten = row (era cv) by rw [row_era]; rfl]
      have s2 := (same_new (o := .lst [cv]) hl).trans (same_new (o := .lst (row (era cv))) hq)
      have hqH : H q = Option.none := (same_new hl).free hq
      have hq2 : upd (upd H l (.lst [cv])) q (.lst (row (era cv))) q = some (.lst (row (era cv))) := upd_same
      generalize upd (upd H l (.lst [cv])) q (.lst (row (era cv))) = H2 at s2 hq2
      have L2' := L.same s2
      have nqh : q ≠ hd := (ne_of_none L.gr.ls hqH).symm
      have nqw : q ≠ wl := (ne_of_none L.wr hqH).symm
      refine ⟨_, rfl, _, rfl, hd, _, _, j, rfl, rfl, L2'.gr.ls, Evl.ixN_nat (by rw [List.length_map]; omega), ?_⟩
      have hwl3 : upd H2 hd (.lst ((hs.map V.ref).set j (.ref q))) wl = some (.lst (ws.map V.int)) := by rw [upd_ne L.n4]; exact L2'.wr
      refine ⟨_, rfl, _, rfl, wl, _, _, _, rfl, rfl, SqL.of hwl3, atI_nat (get_map hwv), _, _, rfl, rfl, _, rfl, _, rfl, wl, _, _, j, rfl, rfl, hwl3, Evl.ixN_nat (by rw [List.length_map]; exact hj), ?_⟩
      have t4 : Tups H2 (upd (upd H2 hd (.lst ((hs.map V.ref).set j (.ref q)))) wl (.lst ((ws.map V.int).set j (.int (wv + 1))))) := (Tups.lst L2'.gr.ls).trans (Tups.lst hwl3)
      have t04 := (same_tups s2).trans t4
      refine k q _ hqH ⟨L.gr.swap hqH (by rw [upd_ne L.n4.symm, upd_same, List.map_set]) (by rw [upd_ne nqw, upd_ne nqh]; exact hq2) (fun x hx o ho => ?_), Pgs.set (L.pg.mono t04) ?_, by rw [upd_same, List.map_set], by rw [List.length_set, List.length_set]; exact L.lw, L.n4, fun h => ?_⟩ (fun x o hx hn => ?_) t04
      · have n1 : x ≠ hd := fun e => L.gr.nc (by rw [← e]; exact hx)
        have n2 : x ≠ wl := fun e => L.n5 (by rw [← e]; exact hx)
        rw [upd_ne n2, upd_ne n1]; exact s2 _ _ ho
      · unfold era
        by_cases hc : cv = .non
        · rw [if_pos hc]; exact ⟨by simp, fun v hv => by cases hv⟩
        · rw [if_neg hc]
          refine ⟨by simp, fun v hv => ?_⟩
          rw [(List.mem_replicate.mp hv).2]
          exact (hcv.resolve_left hc).mono t04
      · rcases List.mem_or_eq_of_mem_set h with z | z
        · exact L.n5 z
        · exact nqw z.symm
      · have n1 : x ≠ hd := fun e => hn (by rw [e]; exact List.mem_cons_self)
        have n2 : x ≠ wl := fun e => hn (by rw [e]; exact List.mem_cons_of_mem _ List.mem_cons_self)
        rw [upd_ne n2, upd_ne n1]; exact s2 _ _ hx
/-- o.m(e, ..) in a try's body: what is raised is wished for at the slots as they stand -/
def tMethT (C : Addr) (m : Str) (sp : Sp) (E : L2.St → XK) (ta : TE) (t : TA) : TE := fun σ H Q => ta σ H fun x H1 => ∃ a dx fs, x = .ref a ∧ H1 a = some (.ins C dx fs) ∧ fs.lookup m = Option.none ∧ t σ H1 fun vs H2 => sp (x :: vs) H2 Q (E σ)
theorem pe_methT {X : Cx} {CX : CXT} {k : Nat} {f C : Addr} {fd : FuncData} {ps : List Str} {sp : Sp} {E : L2.St → XK} {m : Str} {pos apos : Pos} {e o : Expr} {es : List Expr} {ta : TE} {t : TA} {pl : Sem Bool} (ho : PE X o ta) (c : Cls X.K C) (hm : Meth X.K C m f)
    (F : FnOk X.prog X.w X.K X.mg X.base CX k f fd ps sp) (hr : Room k X.A) (hb : Binds X.K fd ps []) (hx : ∀ σ, PassesAt CX X σ (E σ)) (ha : PA X (e :: es) t)
    (hst : starEach (e :: es) X.env = (false, eval e X.env) :: starEach es X.env := by rfl) (hpl : (backTo pos (starEach es X.env)).any (·.1) = false := by rfl)
    (ht : eval (.Call (.Attribute o m apos) (e :: es) [] pos) X.env = (do
      let ov ← eval o X.env
      standAt apos.atName
      let (f, first) ← holding [ov] (getMethod ov m pl)
      callWith pos f first (backTo pos (starEach (e :: es) X.env)) (backToKw pos (keywordEach [] X.env))) := by rfl) :
    PE X (.Call (.Attribute o m apos) (e :: es) [] pos) (tMethT C m sp E ta t) := by
  constructor
  intro pins s σ H Q I h
  refine PySem.W.methodCall_KW (pl := pl) (thn (ho.run pins s σ H _ I h) ?_) ht
  rintro u s1 ⟨x, H1, I1, rx, a, dx, fs, rfl, ea, l, q⟩
  obtain rfl : u = Value.ref a := rx
  refine getmeth_ok I1 ea c hm l ?_
  refine PySem.W.callWith_K (first := [.ref a]) (h₀ := X.base) I.ok.mod.kin hm.kp (thn (ha.run pos pins s1 σ H1 _ I1 q) ?_) hst hpl
  rintro us s2 ⟨vs, H2, I2, r, q2⟩
  exact ⟨I2.kIn, run_fnS (us := .ref a :: us) (vs := .ref a :: vs) F hr hb (hx σ) I2 (.cons rfl r) q2⟩
theorem scDo : FnScope ["log", "act", "what", "is_copy"] ["log", "act", "what", "is_copy"] (defScope sDo) := ⟨rfl, rfl, rfl, by decide +kernel, rfl, by decide +kernel, by decide +kernel⟩
theorem ok_do (F : Fun K "_law_do" "_law_do" sDo f fd) (T : FT K mg C CN CP CS fW fB) (Y : LT K mg CL) (eP : PySem.W.exmOne K (.ref CP) (.ref CP) = some true)
    (GA : MDef P wd K mg base (L2.CX P wd) CL "append" 8 ["self","record","is_copy"] (spAppend C CL CR CP) fAp fdAp) (GE : MDef P wd K mg base (L2.CX P wd) CL "erase" 5 ["self","block"] (spEraseM C CL CN CP) fEr fdEr) : FnOk P wd K mg base CX0 9 f fd ["log", "act", "what", "is_copy"] (spDo C CL CP) := by
  refine F.ok scDo (fun vs H Q E h => ?_) (fun cdv A outer s H vs Q E hr h => ?_)
  · obtain ⟨fl, w, c, as, ws, lg, c2, as2, ps, rm, act, what, cp, rfl, _⟩ := h
    rfl
  · obtain ⟨fl, w, c, as, ws, lg, c2, as2, ps, rm, act, what, cp, rfl, W, hrm, k⟩ := h
    obtain ⟨dx, hob⟩ := id W.lo.ob
    have hr5 : Room 5 _ := hr.mono (by decide)
    refine ⟨_, pss_cons (ps_try_only (Wout := fun _ _ _ _ => False) (c := .ref CP)
      (tb := fun W => tIfS (tTest (tOp rEq (tVar 1) (tC (.str "append")))) (tDrop (tMethT CL "append" (spAppend C CL CR CP) (WE W) (tVar 0) (tCons (tVar 2) (tCons (tVar 3) tNil)))) (tDrop (tMethT CL "erase" (spEraseM C CL CN CP) (WE W) (tVar 0) (tCons (tVar 2) tNil))))
      (ts := fun _ _ _ => tRet (tC (.bl false))) rfl rfl ⟨rfl, by decide, Or.inl T.gP⟩ takes0
      (fun W pn xe tk _ => pss_one (ps_if (pt_cmpR op_eq (pv 1) pe_str (nomark _)) (pss_one (ps_expr (by exact (pe_methT (pv 0) Y.cl GA.me GA.ok hr GA.bd (fun σ => passAt tk σ) (by exact (pa_cons (pv 2) (pa_cons (pv 3) pa_nil)))))))
        (pss_one (ps_expr (by exact (pe_methT (pv 0) Y.cl GE.me GE.ok hr5 GE.bd (fun σ => passAt tk σ) (by exact (pa_cons (pv 2) pa_nil))))))))
      (fun a oe cls d pn hz hf => pss_one (ps_ret pe_bl))) (pss_one (ps_ret pe_bl)), ?_⟩
    refine ⟨_, rfl, rfl, _, rfl, ?_⟩
    rcases k with ⟨rfl, hrec, hroom, k0, k1⟩ | ⟨rfl, j, xs, wv, rfl, hx, hcl, hwv, k0, k1⟩
    · rw [str_eqT]
      refine iteT ⟨_, rfl, lg, dx, _, rfl, hob, lf_no (by decide +kernel), _, rfl, _, rfl, fl, w, c, as, ws, lg, c2, as2, ps, rm, what, cp, rfl, W, hrm, hrec, fun z => absurd z hroom, fun _ z t H' ht hH FA o tt => ?_, fun _ hne H' W' o tt => k1 hne H' W' o tt⟩
      exact ⟨true, eP, fun _ a ha => k0 z t H' ht hH FA o tt, fun z => Bool.noConfusion z⟩
    · rw [str_eqF (by decide)]
      refine iteF ⟨_, rfl, lg, dx, _, rfl, hob, lf_no (by decide +kernel), _, rfl, fl, w, c, as, ws, lg, c2, as2, ps, rm, _, rfl, W, hrm, fun hn => absurd hcl (hn j xs rfl hx), fun j' xs' wv' ej hx' _ hwv' => ?_⟩
      have : j' = j := by omega
      subst this
      rw [hx] at hx'; cases hx'
      rw [hwv] at hwv'; cases hwv'
      refine ⟨fun z t H' ht hH FA o tt => ?_, fun hne as' as2' H' W' o tt fr => k1 hne as' as2' H' W' o tt fr⟩
      exact ⟨true, eP, fun _ a ha => k0 z t H' ht hH FA o tt, fun z => Bool.noConfusion z⟩
end
end Sg

set_option Elab.async false
set_option linter.all false
set_option maxRecDepth 100000
set_option maxHeartbeats 4000000
namespace Sg
open PySem PySem.Spec PyProof.Rows L2
theorem lone_mem {el : Nat → Bool} {q : List (Option Nat)} {n : Nat} (h : n ∈ loneN el q) : some n ∈ q ∧ el n = false := by
  unfold loneN at h
  obtain ⟨o, ho, e⟩ := List.mem_filterMap.mp h
  cases o with
  | none => cases e
  | some m =>
    simp only [Option.bind] at e
    cases hel : el m with
    | true => rw [hel, if_pos rfl] at e; cases e
    | false =>
      rw [hel, if_neg Bool.false_ne_true] at e
      have e := Option.some.inj e
      subst e
      exact ⟨ho, hel⟩
def spChoose : Sp := fun vs H Q _ => ∃ hd hs pz qs nu pk od, vs = [.ref hd, .int nu, .int pk, .int ((od : Nat) : Int)] ∧ od ≤ 1000 ∧ 0 ≤ pk ∧ HeldAt H hd hs pz ∧ PsR H pz qs ∧ (∀ H', Same H H' → Q .non H') ∧
  (∀ (b : Nat) (xs : List V) (q : List (Option Nat)) (t : Addr) (H' : Hp), Same H H' → pz[b]? = some xs → qs[b]? = some q → stS xs.length = "closed" → loneN (elseM qs b) q = [] → H t = Option.none → H' t = some (.tup [.str "erase", .int (b : Int), .bl false]) → Q (.ref t) H') ∧
  (∀ (r : V) (n : Nat) (t : Addr) (H' : Hp), Same H H' → RecT H' r n → 1 ≤ n → (∃ q ∈ qs, some n ∈ q) → 0 < roomM pz true → H t = Option.none → H' t = some (.tup [.str "append", r, .bl true]) → Q (.ref t) H') ∧
  (∀ (r : V) (t : Addr) (H' : Hp), Same H H' → RecT H' r (od + 1) → 0 < roomM pz false → H t = Option.none → H' t = some (.tup [.str "append", r, .bl false]) → Q (.ref t) H')
section
variable {P : Program} {wd : World} {K : PySem.W.Frag} {mg : Str → Option Value} {base : Heap} {f C CL CN CP CS CB CR fW fB fLs fEl fFo fSp fRo fLr : Addr} {fd fdLs fdEl fdFo fdSp fdRo fdLr : FuncData}
theorem scChoose : FnScope ["held","number","pick","order","closed","block","lone","page"] ["held","number","pick","order"] (defScope sChoose) := ⟨rfl, rfl, rfl, by decide +kernel, rfl, by decide +kernel, by decide +kernel⟩
theorem ok_choose (F : Fun K "_law_choose" "_law_choose" sChoose f fd) (T : FT K mg C CN CP CS fW fB) (GS : Def P wd K mg base CX0 "_law_state" 2 ["held","block"] spLState fLs fdLs) (GE : Def P wd K mg base CX0 "_law_elsewhere" 1 ["held","block","page"] spElse fEl fdEl)
    (GSp : Def P wd K mg base CX0 "_law_spare" 3 ["held"] spSpare fSp fdSp) (GF : Def P wd K mg base CX0 "_law_found" 1 ["held"] spFound fFo fdFo) (GM : Def P wd K mg base CX0 "_law_room" 3 ["held","is_copy"] spLRoom fRo fdRo) (GR : Def P wd K mg base CX0 "_law_record" 1 ["order"] spLRec fLr fdLr) :
    FnOk P wd K mg base CX0 4 f fd ["held","number","pick","order"] spChoose := by
  refine F.ok scChoose (fun vs H Q E h => ?_) (fun cdv A outer s H vs Q E hr h => ?_)
  · obtain ⟨hd, hs, pz, qs, nu, pk, od, rfl, _⟩ := h
    rfl
  · obtain ⟨hd, hs, pz, qs, nu, pk, od, rfl, hod, hpk, HE, PZ, k0, k1, k2, k3⟩ := h
    have hr1 : Room 1 _ := hr.mono (by decide)
    have hr2 : Room 2 _ := hr.mono (by decide)
    have hr3 : Room 3 _ := hr
    refine ⟨_, (Evl.pss_cut (ps_if (PW.pt (pw_and (pt_cmpR op_eq (pe_op op_mod (pv 1) pe_int) pe_int (nomark _)) (pw_and1 (pt_cmpR op_notN (pe_call GSp.ok hr3 (by rfl) GSp.mg GSp.kp GSp.bd .nil pass0 (pa_cons (pv 0) pa_nil)) pe_non (nomark _)))))
      (pss_one (ps_ret (pe_tup (pa_cons pe_str (pa_cons (pe_call GSp.ok hr3 (by rfl) GSp.mg GSp.kp GSp.bd .nil pass0 (pa_cons (pv 0) pa_nil)) (pa_cons pe_bl pa_nil)))))) pss_nil)
      (Evl.pss_cut (ps_if (PW.pt (pw_and (pt_cmpR op_gt (pe_op op_mod (pv 1) pe_int) pe_int (nomark _)) (pw_and (pt_cmpR op_gt (pe_callB call_len_seq (by rfl) T.bt.len PySem.boot_len (pa_cons (pe_call GF.ok hr1 (by rfl) GF.mg GF.kp GF.bd .nil pass0 (pa_cons (pv 0) pa_nil)) pa_nil)) pe_int (nomark _)) (pw_and1 (pt_cmpR op_gt (pe_call GM.ok hr3 (by rfl) GM.mg GM.kp GM.bd .nil pass0 (pa_cons (pv 0) (pa_cons pe_bl pa_nil))) pe_int (nomark _))))))
      (pss_cons (ps_setLc (i := 4) (own := [("block", 5)]) (g := gName 5) (tt := tTest (tOp rEq (tCall spLState [] E0 (tCons (tVar 0) (tCons (tVar 5) tNil))) (tC (.str "closed")))) (te := tVar 5) (by rfl) scChoose.nd rfl rfl (sw_true rfl rfl rfl (by decide +kernel)) (pi_range1 (by rfl) T.bt.range (pa_cons (pe_callB call_len_seq (by rfl) T.bt.len PySem.boot_len (pa_cons (pv 0) pa_nil)) pa_nil)) (blkOk_by (own := [("block", 5)]) (N := ["held", "number", "pick", "order", "closed", "block", "lone", "page"]) (sc := defScope sChoose) (by decide +kernel)) (fun _ _ _ _ _ => pg_name (i := 5) scChoose.nd rfl (Or.inl rfl)) (fun _ _ _ _ _ => pts_one (pt_cmpR op_eq (pe_call GS.ok hr2 (by rfl) GS.mg GS.kp GS.bd .nil pass0 (pa_cons (pv 0) (pa_cons (pv 5) pa_nil))) pe_str (nomark _))) (fun _ _ _ _ _ => by exact (pv 5)))
      (pss_one (ps_if (pt_cmpR op_gt (pe_callB call_len_seq (by rfl) T.bt.len PySem.boot_len (pa_cons (pv 4) pa_nil)) pe_int (nomark _))
      (pss_cons (ps_set (i := 5) scChoose.nd rfl (Or.inr rfl) (pe_ix ix_list (pv 4) (pe_op op_mod (pv 2) (pe_callB call_len_seq (by rfl) T.bt.len PySem.boot_len (pa_cons (pv 4) pa_nil))) (fun _ _ => rfl)))
      (pss_cons (ps_setLc (i := 6) (own := [("page", 7)]) (g := gName 7) (tt := tLone K 5 7) (te := tVar 7) (by rfl) scChoose.nd rfl rfl (sw_true rfl rfl rfl (by decide +kernel)) (pi_list (pe_ix ix_list (pv 0) (pv 5) (fun _ _ => rfl))) (blkOk_by (own := [("page", 7)]) (N := ["held", "number", "pick", "order", "closed", "block", "lone", "page"]) (sc := defScope sChoose) (by decide +kernel)) (fun _ _ _ _ _ => pg_name (i := 7) scChoose.nd rfl (Or.inl rfl)) (fun _ _ _ _ _ => pts_one (PW.pt (pw_and (pt_val (pe_callB call_isi (by rfl) T.bd.isi boot_isi (pa_cons (pv 7) (pa_cons (pe_bltn (v := .ty "tuple") (by rfl) T.tup boot_tuple rfl) pa_nil)))) (pw_and1 (pt_not (pt_val (pe_call GE.ok hr1 (by rfl) GE.mg GE.kp GE.bd .nil pass0 (pa_cons (pv 0) (pa_cons (pv 5) (pa_cons (pv 7) pa_nil)))))))))) (fun _ _ _ _ _ => by exact (pv 7)))
      (pss_one (ps_if (pt_cmpR op_gt (pe_callB call_len_seq (by rfl) T.bt.len PySem.boot_len (pa_cons (pv 6) pa_nil)) pe_int (nomark _))
      (pss_one (ps_ret (pe_tup (pa_cons pe_str (pa_cons (pe_ix ix_list (pv 6) pe_int (fun _ _ => rfl)) (pa_cons pe_bl pa_nil)))))) pss_nil)))) pss_nil))) pss_nil)
      (pss_cons (ps_if (pt_cmpR op_gt (pe_call GM.ok hr3 (by rfl) GM.mg GM.kp GM.bd .nil pass0 (pa_cons (pv 0) (pa_cons pe_bl pa_nil))) pe_int (nomark _))
      (pss_one (ps_ret (pe_tup (pa_cons pe_str (pa_cons (pe_call GR.ok hr1 (by rfl) GR.mg GR.kp GR.bd .nil pass0 (pa_cons (pe_op op_add (pv 3) pe_int) pa_nil)) (pa_cons pe_bl pa_nil)))))) pss_nil)
      (pss_one (ps_ret pe_non))))), ?_⟩
    have hgl := HE.gr.len
    have hle := HE.le
    refine ⟨fun σ' H' => σ' = [some (.ref hd), some (.int nu), some (.int pk), some (.int (od : Int)), none, none, none, none] ∧ Same H H', ?_, ?_⟩
    · refine ⟨_, rfl, _, _, rfl, rfl, (by show (0:Int) < _; decide), rfl, _, rfl, ?_⟩
      refine ite2 (fun _ => ?_) (fun _ => ?_)
      · refine ⟨_, rfl, hd, hs, pz, qs, rfl, HE, PZ, fun H1 _ s1 => ?_, fun b xs q H1 s1 hx hq hcl hl => ?_⟩
        · refine ⟨rfl, _, rfl, ?_⟩
          rw [show (!decide (V.non = V.non)) = false by simp]
          exact iteF ⟨rfl, s1⟩
        · refine ⟨rfl, _, rfl, ?_⟩
          rw [show (!decide (V.int (b : Int) = V.non)) = true by simp]
          refine iteT ?_
          refine ⟨_, rfl, hd, hs, pz, qs, rfl, HE.same s1, PZ.tups (same_tups s1), fun H2 hno s2 => absurd hl (hno b xs q hx hq hcl), fun b' xs' q' H2 s2 hx' hq' hcl' hl' => ?_⟩
          refine ⟨by show 3 ≤ sizeLine; decide, fun t ht => ?_⟩
          have s12 := s1.trans s2
          exact k1 b' xs' q' t _ (s12.trans (same_new ht)) hx' hq' hcl' hl' (s12.free ht) upd_same
      · exact iteF ⟨rfl, Same.refl H⟩
    · rintro σ' H1 ⟨rfl, s1⟩
      have HE1 := HE.same s1
      have PZ1 := PZ.tups (same_tups s1)
      refine ⟨fun σ' H' => ∃ v4 v5 v6, σ' = [some (.ref hd), some (.int nu), some (.int pk), some (.int (od : Int)), v4, v5, v6, none] ∧ Same H H', ?_, ?_⟩
      · refine ⟨_, rfl, _, _, rfl, rfl, (by show (0:Int) < _; decide), _, _, rfl, rfl, _, rfl, ?_⟩
        refine ite2 (fun _ => ?_) (fun _ => iteF ⟨_, _, _, rfl, s1⟩)
        refine ⟨_, rfl, hd, hs, pz, qs, rfl, HE1, PZ1, fun lf H2 s2 hlf ra => ?_⟩
        obtain ⟨ts, ns, f1, f2, f3, f4⟩ := ra
        have s12 := s1.trans s2
        refine ⟨lf, _, rfl, .inl (SqL.of f1), _, _, rfl, rfl, _, rfl, ?_⟩
        refine ite2 (fun _ => ?_) (fun _ => iteF ⟨_, _, _, rfl, s12⟩)
        refine ⟨_, rfl, hd, hs, pz, true, rfl, HE.same s12, fun H3 s3 => ⟨_, _, rfl, rfl, _, rfl, ?_⟩⟩
        have s13 := s12.trans s3
        by_cases d : 0 < roomM pz true
        rotate_left
        · rw [decide_eq_false d]
          exact iteF ⟨_, _, _, rfl, s13⟩
        rw [decide_eq_true d]
        refine iteT ?_
        have HE3 := HE.same s13
        refine ⟨_, rfl, hd, _, rfl, .inl (SqL.of HE3.gr.ls), _, rfl, by rw [List.length_map]; omega, by rw [List.length_map]; omega, fun D hD => ?_⟩
        rw [show (((hs.map V.ref).length : Int)).toNat = pz.length by rw [List.length_map]; omega]
        refine lc_rngF (stB pz "closed") hD (fun _ => rfl) (by omega) (fun i H' Q' hi' sm q' => ?_) (fun i H' Q' hi' q' => ⟨_, rfl, q'⟩) fun H4 s4 hDl => ?_
        · have hvs : pz[i]? = some pz[i] := List.getElem?_eq_getElem hi'
          refine ⟨_, rfl, _, rfl, hd, hs, pz, _, rfl, HE3.same sm, i, pz[i], by omega, hvs, rfl, _, rfl, ?_⟩
          rw [lstate_tt hvs]
          exact q' H' (Same.refl H')
        have s14 := s13.trans s4
        have hDl : H4 D = some (.lst ((blks pz "closed").map fun i : Nat => V.int (i : Int))) := hDl
        have hbl := fun b => blks_mem (ps := pz) (s := "closed") (b := b)
        generalize blks pz "closed" = bs at hDl hbl
        refine ⟨_, rfl, D, _, rfl, .inl (SqL.of hDl), _, _, rfl, rfl, _, rfl, ?_⟩
        rw [List.length_map]
        by_cases d1 : (0 : Int) < (bs.length : Int)
        rotate_left
        · rw [decide_eq_false d1]
          exact iteF ⟨_, _, _, rfl, s14⟩
        rw [decide_eq_true d1]
        refine iteT ?_
        obtain ⟨p, hp⟩ : ∃ p : Nat, pk = (p : Int) := ⟨pk.toNat, by omega⟩
        have hj : p % bs.length < bs.length := Nat.mod_lt _ (by omega)
        have hbj : bs[p % bs.length]? = some bs[p % bs.length] := List.getElem?_eq_getElem hj
        generalize bs[p % bs.length] = b at hbj
        have hcast : pk % (((bs.map fun i : Nat => V.int (i : Int)).length : Nat) : Int) = ((p % bs.length : Nat) : Int) := by rw [hp, List.length_map]; rfl
        obtain ⟨xs, hxs, hcl, hbz, _⟩ := hbl b (List.mem_of_getElem? hbj)
        have hatb : atI (bs.map fun i : Nat => V.int (i : Int)) (pk % (((bs.map fun i : Nat => V.int (i : Int)).length : Nat) : Int)) = some (.int (b : Int)) := by rw [hcast]; exact atI_nat (get_map hbj)
        refine ⟨_, rfl, _, rfl, _, rfl, D, _, rfl, .inl (SqL.of hDl), _, _, rfl, rfl, (by show (0:Int) < _; rw [List.length_map]; exact d1), D, _, _, _, rfl, rfl, SqL.of hDl, hatb, ?_⟩
        have HE4 := HE.same s14
        have PZ4 := PZ.tups (same_tups s14)
        obtain ⟨a, ha, hrow⟩ := HE4.gr.at hxs
        obtain ⟨q, hq, pq⟩ := paired_at PZ4 hxs
        have h8 := (HE.pg _ (List.mem_of_getElem? hxs)).1
        refine ⟨_, rfl, _, rfl, hd, _, _, _, rfl, rfl, SqL.of HE4.gr.ls, atI_nat (get_map ha), a, rfl, ⟨_, SqL.of hrow⟩, fun D2 hD2 => ?_⟩
        refine lc_lone (K := K) xs q (elseM qs b) hD2 hrow pq h8 (fun _ => rfl) (fun v H' Q' hv sm q' => lone_no rfl hv q') (fun t n H' Q' hn sm r q' => lone_yes (b := b) rfl rfl rfl rfl r (HE4.same sm) (PZ4.tups (same_tups sm)) (q' H' (Same.refl _))) (fun v H' Q' q' => ⟨_, rfl, q'⟩) fun H5 ts2 s5 hDl2 rt => ?_
        have s15 := s14.trans s5
        refine ⟨_, rfl, D2, _, rfl, .inl (SqL.of hDl2), _, _, rfl, rfl, _, rfl, ?_⟩
        rw [List.length_map]
        by_cases d2 : (0 : Int) < (ts2.length : Int)
        rotate_left
        · rw [decide_eq_false d2]
          exact iteF ⟨_, _, _, rfl, s15⟩
        rw [decide_eq_true d2]
        refine iteT ?_
        have ht0 : ts2[0]? = some (ts2[0]'(by omega)) := List.getElem?_eq_getElem _
        obtain ⟨n, hn0, htn⟩ := paired_at rt ht0
        generalize ts2[0]'(by omega) = r at ht0 htn
        have hm := (lone_mem (List.mem_of_getElem? hn0)).1
        have hqm := List.mem_of_getElem? hq
        refine ⟨_, rfl, D2, _, _, _, rfl, rfl, SqL.of hDl2, atI_nat (j := 0) (get_map ht0), by show 3 ≤ sizeLine; decide, fun t ht => ?_⟩
        have s6 := same_new (o := .tup [.str "append", .ref r, .bl true]) ht
        exact k2 _ n t _ (s15.trans s6) ⟨r, rfl, s6 _ _ htn⟩ (psr_pos PZ q hqm n hm) ⟨q, hqm, hm⟩ d (s15.free ht) upd_same
      · rintro σ' H2 ⟨v4, v5, v6, rfl, s2⟩
        refine ⟨_, rfl, hd, hs, pz, false, rfl, HE.same s2, fun H3 s3 => ⟨_, _, rfl, rfl, _, rfl, ?_⟩⟩
        have s23 := s2.trans s3
        by_cases d : 0 < roomM pz false
        · rw [decide_eq_true d]
          refine iteT ⟨_, rfl, _, _, rfl, rfl, od + 1, vs1 (by omega), by omega, fun r H4 s4 hr4 => ?_⟩
          refine ⟨by show 3 ≤ sizeLine; decide, fun t ht => ?_⟩
          have s5 := same_new (o := .tup [.str "append", .ref r, .bl false]) ht
          have s24 := s23.trans s4
          exact k3 _ t _ (s24.trans s5) ⟨r, rfl, s5 _ _ hr4⟩ d (s24.free ht) upd_same
        · rw [decide_eq_false d]
          exact iteF (k0 H3 s23)
end
end Sg

set_option Elab.async false
set_option linter.all false
set_option maxRecDepth 100000
set_option maxHeartbeats 4000000
namespace Sg
open PySem PySem.Spec PyProof.Rows L2
/-! ### the orders on the pages -/
def Ord (qs : List (List (Option Nat))) (m : Nat) : Prop := ∀ n, (∃ q ∈ qs, some n ∈ q) ↔ 1 ≤ n ∧ n ≤ m
theorem ex_split {qs : List (List (Option Nat))} {b : Nat} {q : List (Option Nat)} (h : qs[b]? = some q) (n : Nat) : (∃ x ∈ qs, some n ∈ x) ↔ some n ∈ q ∨ ∃ o x, o ≠ b ∧ qs[o]? = some x ∧ some n ∈ x := by
  constructor
  · rintro ⟨x, hx, hn⟩
    obtain ⟨o, ho⟩ := List.getElem?_of_mem hx
    by_cases e : o = b
    · subst e; rw [h] at ho; cases ho; exact .inl hn
    · exact .inr ⟨o, x, e, ho, hn⟩
  · rintro (h1 | ⟨o, x, _, ho, hn⟩)
    · exact ⟨q, List.mem_of_getElem? h, h1⟩
    · exact ⟨x, List.mem_of_getElem? ho, hn⟩
theorem ex_set {qs : List (List (Option Nat))} {b : Nat} {q q' : List (Option Nat)} (h : qs[b]? = some q) (n : Nat) : (∃ x ∈ qs.set b q', some n ∈ x) ↔ some n ∈ q' ∨ ∃ o x, o ≠ b ∧ qs[o]? = some x ∧ some n ∈ x := by
  have hb := (List.getElem?_eq_some_iff.mp h).1
  rw [ex_split (q := q') (qs := qs.set b q') (b := b) (by rw [List.getElem?_set_self hb])]
  constructor
  · rintro (h1 | ⟨o, x, e, ho, hn⟩)
    · exact .inl h1
    · exact .inr ⟨o, x, e, by rw [List.getElem?_set_ne (fun z => e z.symm)] at ho; exact ho, hn⟩
  · rintro (h1 | ⟨o, x, e, ho, hn⟩)
    · exact .inl h1
    · exact .inr ⟨o, x, e, by rw [List.getElem?_set_ne (fun z => e z.symm)]; exact ho, hn⟩
theorem Ord.app {qs : List (List (Option Nat))} {b m n : Nat} {q : List (Option Nat)} (O : Ord qs m) (h : qs[b]? = some q) (hn : 1 ≤ n ∧ n ≤ m) : Ord (qs.set b (q ++ [some n])) m := fun k => by
  rw [ex_set h, ← O k, ex_split h]
  constructor
  · rintro (z | z)
    · rcases List.mem_append.mp z with z | z
      · exact .inl z
      · have e : k = n := by simpa using z
        subst e
        exact (ex_split h k).mp ((O k).mpr hn)
    · exact .inr z
  · rintro (z | z)
    · exact .inl (List.mem_append_left _ z)
    · exact .inr z
theorem Ord.new {qs : List (List (Option Nat))} {b m : Nat} {q : List (Option Nat)} (O : Ord qs m) (h : qs[b]? = some q) : Ord (qs.set b (q ++ [some (m + 1)])) (m + 1) := fun k => by
  have o := O k
  rw [ex_split h] at o
  rw [ex_set h]
  constructor
  · rintro (z | z)
    · rcases List.mem_append.mp z with z | z
      · have := o.mp (.inl z); omega
      · have e : k = m + 1 := by simpa using z
        omega
    · have := o.mp (.inr z); omega
  · intro z
    by_cases e : k = m + 1
    · subst e; exact .inl (by simp)
    · rcases o.mpr (by omega) with y | y
      · exact .inl (List.mem_append_left _ y)
      · exact .inr y
theorem Ord.torn {qs : List (List (Option Nat))} {b m : Nat} {q : List (Option Nat)} (O : Ord qs m) (h : qs[b]? = some q) : Ord (qs.set b (q ++ [none])) m := fun k => by
  rw [ex_set h, ← O k, ex_split h]
  simp
theorem Ord.era {qs : List (List (Option Nat))} {b m : Nat} {q q' : List (Option Nat)} (O : Ord qs m) (h : qs[b]? = some q) (hl : loneN (elseM qs b) q = []) (h' : ∀ n, some n ∉ q') : Ord (qs.set b q') m := fun k => by
  rw [ex_set h, ← O k, ex_split h]
  constructor
  · rintro (z | z)
    · exact absurd z (h' k)
    · exact .inr z
  · rintro (z | z)
    · refine .inr ?_
      have el : elseM qs b k = true := by
        cases e : elseM qs b k with
        | true => rfl
        | false =>
          have : k ∈ loneN (elseM qs b) q := by
            unfold loneN
            exact List.mem_filterMap.mpr ⟨some k, z, by simp [e]⟩
          rw [hl] at this; cases this
      unfold elseM at el
      rw [List.any_eq_true] at el
      obtain ⟨o, ho, hh⟩ := el
      have ho := List.mem_range.mp ho
      rw [Bool.and_eq_true] at hh
      have h1 : ¬ o = b := by have := hh.1; simpa using this
      have h2 := of_decide_eq_true hh.2
      refine ⟨o, qs[o], h1, List.getElem?_eq_getElem ho, ?_⟩
      rw [List.getD_eq_getElem?_getD, List.getElem?_eq_getElem ho] at h2
      exact h2
    · exact .inr z
/-! ### at most one block is open -/
theorem len_le1 {l : List Nat} {a : Nat} (nd : l.Nodup) (h : ∀ x ∈ l, x = a) : l.length ≤ 1 := by
  match l, nd, h with
  | [], _, _ => simp
  | [_], _, _ => simp
  | x :: y :: l, nd, h =>
    have e1 := h x (by simp)
    have e2 := h y (by simp)
    rw [e1, e2] at nd
    simp at nd
theorem open_iff {ps : List (List V)} {b : Nat} : b ∈ blks ps "open" ↔ ∃ xs, ps[b]? = some xs ∧ stS xs.length = "open" := by
  constructor
  · intro h
    obtain ⟨xs, e1, e2, _, _⟩ := blks_mem h
    exact ⟨xs, e1, e2⟩
  · rintro ⟨xs, e1, e2⟩
    unfold blks
    have hb := (List.getElem?_eq_some_iff.mp e1).1
    refine List.mem_filter.mpr ⟨List.mem_range.mpr hb, ?_⟩
    unfold stB
    rw [List.getD_eq_getElem?_getD, e1]
    exact decide_eq_true e2
def One (ps : List (List V)) : Prop := (blks ps "open").length ≤ 1
theorem nd_blks (ps : List (List V)) (s : Str) : (blks ps s).Nodup := List.filter_sublist.nodup List.nodup_range
theorem One.app {ws : List Int} {ps : List (List V)} {xs : List V} (O : One ps) : One (ps.set (nextM ws ps) xs) := by
  refine len_le1 (a := nextM ws ps) (nd_blks _ _) fun o ho => ?_
  obtain ⟨ys, e1, e2⟩ := open_iff.mp ho
  rcases get_set_cases e1 with ⟨e, _, _⟩ | ⟨hne, e1⟩
  · exact e
  · have hm := open_iff.mpr ⟨ys, e1, e2⟩
    unfold One at O
    unfold nextM at hne ⊢
    cases hb : blks ps "open" with
    | nil => rw [hb] at hm; cases hm
    | cons x l =>
      rw [hb] at hm O hne
      cases l with
      | nil => exact List.mem_singleton.mp hm
      | cons y l => simp at O
theorem One.set {ps : List (List V)} {b : Nat} {xs : List V} (O : One ps) (h : stS xs.length ≠ "open") : One (ps.set b xs) := by
  have sub : ∀ o ∈ blks (ps.set b xs) "open", o ∈ blks ps "open" := fun o ho => by
    obtain ⟨ys, e1, e2⟩ := open_iff.mp ho
    rcases get_set_cases e1 with ⟨_, e, _⟩ | ⟨_, e1⟩
    · rw [e] at e2; exact absurd e2 h
    · exact open_iff.mpr ⟨ys, e1, e2⟩
  unfold One at O
  cases hb : blks ps "open" with
  | nil => exact len_le1 (a := 0) (nd_blks _ _) fun o ho => by have := sub o ho; rw [hb] at this; cases this
  | cons x l =>
    rw [hb] at O
    cases l with
    | nil => exact len_le1 (a := x) (nd_blks _ _) fun o ho => by have := sub o ho; rw [hb] at this; exact List.mem_singleton.mp this
    | cons y l => simp at O
/-! ### the heap of the law -/
structure IJ (C CL : Addr) (H : Hp) (tp fl lg hd wl : Addr) (ts : List Int) (od : Nat) (rm : V) (w c : Addr) (as : List Addr) (ws : List Int) (c2 : Addr) (as2 : List Addr) (ps : List (List V)) (hs : List Addr) (pz : List (List V)) (qs : List (List (Option Nat))) : Prop where
  wd : WL C CL H fl w c as ws lg c2 as2 ps rm
  lh : LH H hd hs pz wl ws
  pq : PsR H ps qs
  zq : PsR H pz qs
  len : ps.length = 8
  ht : H tp = some (.lst (ts.map V.int))
  no : ∀ x ∈ tp :: hd :: wl :: hs, x ∉ own fl w c c2 as as2
  nt : tp ∉ hd :: wl :: hs
  od : Ord qs od
  one : One ps
section
variable {C CL : Addr} {H H' : Hp} {tp fl lg hd wl w c c2 : Addr} {ts ws : List Int} {od : Nat} {rm : V} {as as2 hs : List Addr} {ps pz : List (List V)} {qs : List (List (Option Nat))} {xs : List Addr}
theorem IJ.same (J : IJ C CL H tp fl lg hd wl ts od rm w c as ws c2 as2 ps hs pz qs) (s : Same H H') : IJ C CL H' tp fl lg hd wl ts od rm w c as ws c2 as2 ps hs pz qs :=
  ⟨J.wd.same s, J.lh.same s, J.pq.tups (same_tups s), J.zq.tups (same_tups s), J.len, s _ _ J.ht, J.no, J.nt, J.od, J.one⟩
theorem IJ.he (J : IJ C CL H tp fl lg hd wl ts od rm w c as ws c2 as2 ps hs pz qs) : HeldAt H hd hs pz := ⟨J.lh.gr, J.lh.pg, by have h1 := J.zq.length; have h2 := J.pq.length; have h3 := J.len; omega⟩
theorem LH.off (L : LH H hd hs pz wl ws) (o : Off xs H H') (t : Tups H H') (n : ∀ x ∈ hd :: wl :: hs, x ∉ xs) : LH H' hd hs pz wl ws :=
  ⟨L.gr.keep (fun x hx => o _ _ hx (n _ List.mem_cons_self)) (fun a ha x hx => o _ _ hx (n a (List.mem_cons_of_mem _ (List.mem_cons_of_mem _ ha)))), L.pg.mono t, o _ _ L.wr (n _ (List.mem_cons_of_mem _ List.mem_cons_self)), L.lw, L.n4, L.n5⟩
theorem LH.some (L : LH H hd hs pz wl ws) {x : Addr} (h : x ∈ hd :: wl :: hs) : ∃ xs, H x = Option.some (.lst xs) := by
  rcases List.mem_cons.mp h with e | h
  · exact ⟨_, by rw [e]; exact L.gr.ls⟩
  rcases List.mem_cons.mp h with e | h
  · exact ⟨_, by rw [e]; exact L.wr⟩
  · exact grid_some L.gr h
end
end Sg

set_option Elab.async false
set_option linter.all false
set_option maxRecDepth 100000
set_option maxHeartbeats 4000000
namespace Sg
open PySem PySem.Spec PyProof.Rows L2
section
variable {C CL : Addr} {H H' H1 H2 H3 H5 : Hp} {tp fl lg lg' hd wl w c c2 : Addr} {ts ws ws2 : List Int} {od : Nat} {rm : V} {as as2 hs hs2 : List Addr} {ps pz pz2 : List (List V)} {qs : List (List (Option Nat))}
/-- the law's copy was changed -/
theorem IJ.applied (W1 : WL C CL H1 fl w c as ws2 lg c2 as2 ps rm) (ht : H1 tp = some (.lst (ts.map V.int))) (no1 : ∀ x ∈ tp :: hd :: wl :: hs, x ∉ own fl w c c2 as as2) (nt : tp ∉ hd :: wl :: hs) (L1 : LH H1 hd hs pz wl ws)
    (L2' : LH H2 hd hs2 pz2 wl ws2) (o : Off (hd :: wl :: hs) H1 H2) (t : Tups H1 H2) (sub : ∀ x ∈ hs2, x ∈ hs ∨ H1 x = none) (P1 : PsR H2 ps qs) (P2 : PsR H2 pz2 qs) (len : ps.length = 8) (O : Ord qs od) (N : One ps) :
    IJ C CL H2 tp fl lg hd wl ts od rm w c as ws2 c2 as2 ps hs2 pz2 qs := by
  have nl : lg ∉ hd :: wl :: hs := fun h => by
    obtain ⟨xs, e⟩ := L1.some h
    obtain ⟨dx, e2⟩ := W1.lo.ob
    rw [e] at e2; cases e2
  refine ⟨W1.off o t (fun x hx hm => no1 x (List.mem_cons_of_mem _ hm) hx) nl, L2', P1, P2, len, o _ _ ht nt, fun x hx => ?_, fun h => ?_, O, N⟩
  · rcases List.mem_cons.mp hx with e | hx
    · exact no1 x (by rw [e]; exact List.mem_cons_self)
    rcases List.mem_cons.mp hx with e | hx
    · exact no1 x (by rw [e]; simp)
    rcases List.mem_cons.mp hx with e | hx
    · exact no1 x (by rw [e]; simp)
    rcases sub x hx with z | z
    · exact no1 x (by simp [z])
    · intro hm
      obtain ⟨u, hu⟩ := own_some W1 x hm
      rw [z] at hu; cases hu
  · rcases List.mem_cons.mp h with e | h
    · exact nt (by rw [e]; simp)
    rcases List.mem_cons.mp h with e | h
    · exact nt (by rw [e]; simp)
    rcases sub tp h with z | z
    · exact nt (by simp [z])
    · rw [ht] at z; cases z
/-- the log was opened anew -/
theorem IJ.reopened (L3 : LH H3 hd hs pz wl ws) (ht : H3 tp = some (.lst (ts.map V.int))) (no3 : ∀ x ∈ tp :: hd :: wl :: hs, x ∉ fl :: w :: c :: as) (nt : tp ∉ hd :: wl :: hs) (P1 : PsR H3 ps qs) (P2 : PsR H3 pz qs)
    (W5 : WL C CL H5 fl w c as ws lg c2 as2 ps .non) (s : Same H3 H5) (fr : ∀ a ∈ c2 :: as2, H3 a = none) (len : ps.length = 8) (O : Ord qs od) (N : One ps) :
    IJ C CL H5 tp fl lg hd wl ts od .non w c as ws c2 as2 ps hs pz qs := by
  refine ⟨W5, L3.same s, P1.tups (same_tups s), P2.tups (same_tups s), len, s _ _ ht, fun x hx hm => ?_, nt, O, N⟩
  have ex : ∃ u, H3 x = some u := by
    rcases List.mem_cons.mp hx with e | hx
    · exact ⟨_, by rw [e]; exact ht⟩
    · obtain ⟨xs, e⟩ := L3.some hx
      exact ⟨_, e⟩
  obtain ⟨u, hu⟩ := ex
  unfold own at hm
  simp only [List.mem_cons, List.mem_append] at hm
  rcases hm with e | e | e | e | e | e
  · exact no3 x hx (by simp [e])
  · exact no3 x hx (by simp [e])
  · exact no3 x hx (by simp [e])
  · have := fr x (by simp [e]); rw [hu] at this; cases this
  · exact no3 x hx (by simp [e])
  · have := fr x (by simp [e]); rw [hu] at this; cases this
theorem flash_sub {x : Addr} (h : x ∈ fl :: w :: c :: as) : x ∈ own fl w c c2 as as2 := by
  unfold own
  simp only [List.mem_cons, List.mem_append] at h ⊢
  rcases h with h | h | h | h
  · exact .inl h
  · exact .inr (.inl h)
  · exact .inr (.inr (.inl h))
  · exact .inr (.inr (.inr (.inr (.inl h))))
theorem paired_era {v : V} {o : Option Nat} (h : PgR H v o) (n : Nat) : Paired (PgR H) (List.replicate n v) (List.replicate n o) := by
  induction n with
  | zero => exact .nil
  | succ n ih => rw [List.replicate_succ, List.replicate_succ]; exact .cons h ih
end
/-- the log's constructor in the law: a new log of a flash -/
theorem Off.sameF {xs : List Addr} {H H' : Hp} (o : Off xs H H') (h : ∀ x ∈ xs, H x = none) : Same H H' := fun x u e => o x u e fun hm => by rw [h x hm] at e; cases e
end Sg

set_option Elab.async false
set_option linter.all false
set_option maxRecDepth 100000
set_option maxHeartbeats 8000000
namespace Sg
open PySem PySem.Spec PyProof.Rows L2
theorem blks_new (m : Nat) : blks (List.replicate m []) "open" = [] := by
  unfold blks
  rw [List.filter_eq_nil_iff]
  intro b hb z
  have hb := List.mem_range.mp hb
  rw [List.length_replicate] at hb
  unfold stB at z
  have e : (List.replicate m ([] : List V)).getD b [] = [] := by
    rw [List.getD_eq_getElem?_getD, List.getElem?_replicate]
    split <;> rfl
  rw [e] at z
  exact absurd (of_decide_eq_true z) (by decide)
theorem psr_new {H : Hp} : ∀ m : Nat, PsR H (List.replicate m []) (List.replicate m [])
  | 0 => .nil
  | m + 1 => by rw [List.replicate_succ, List.replicate_succ]; exact .cons .nil (psr_new m)
theorem ord_new (m : Nat) : Ord (List.replicate m []) 0 := fun n => by
  constructor
  · rintro ⟨q, hq, hn⟩
    rw [(List.mem_replicate.mp hq).2] at hn
    cases hn
  · intro h; omega
theorem WL.refa {C CL : Addr} {H H' : Hp} {fl w c : Addr} {as : List Addr} {ws : List Int} {lg c2 : Addr} {as2 : List Addr} {ps : List (List V)} {rm rm' : V} (W : WL C CL H fl w c as ws lg c2 as2 ps rm) (FA : FlashAt C H' fl w c as ws ps true rm' .non) (o : Off [fl] H H') (t : Tups H H') : WL C CL H' fl w c as ws lg c2 as2 ps rm' :=
  ⟨FA, W.lo.off o t (by simpa using W.n1) (fun h => W.n2 (by rw [List.mem_singleton.mp h]; exact List.mem_cons_self)) (fun a ha h => W.n3 a ha (by rw [List.mem_singleton.mp h]; exact List.mem_cons_self)) FA.blk, W.n1, W.n2, W.n3⟩
theorem IJ.fuse {C CL : Addr} {H H' : Hp} {tp fl lg hd wl w c c2 : Addr} {ts ws : List Int} {od : Nat} {rm rm' : V} {as as2 hs : List Addr} {ps pz : List (List V)} {qs : List (List (Option Nat))} (J : IJ C CL H tp fl lg hd wl ts od rm w c as ws c2 as2 ps hs pz qs) (FA : FlashAt C H' fl w c as ws ps true rm' .non) (o : Off [fl] H H') (t : Tups H H') :
    IJ C CL H' tp fl lg hd wl ts od rm' w c as ws c2 as2 ps hs pz qs := by
  have nf : ∀ x ∈ tp :: hd :: wl :: hs, x ∉ [fl] := fun x hx h => J.no x hx (by rw [List.mem_singleton.mp h]; exact flash_sub List.mem_cons_self)
  exact ⟨J.wd.refa FA o t, J.lh.off o t fun x hx => nf x (List.mem_cons_of_mem _ hx), J.pq.tups t, J.zq.tups t, J.len, o _ _ J.ht (nf tp List.mem_cons_self), J.no, J.nt, J.od, J.one⟩
theorem ord_list {ns : List Nat} {qs : List (List (Option Nat))} {m : Nat} (O : Ord qs m) (s : ns.Pairwise (· < ·)) (h : ∀ n, n ∈ ns ↔ ∃ q ∈ qs, some n ∈ q) : ns = (List.range m).map (1 + ·) := by
  refine strict_one s ?_ fun n => ?_
  · rw [List.pairwise_map]
    exact List.pairwise_lt_range.imp fun h => by omega
  · rw [h n, O n, List.mem_map]
    constructor
    · intro z
      exact ⟨n - 1, List.mem_range.mpr (by omega), by omega⟩
    · rintro ⟨k, hk, e⟩
      have := List.mem_range.mp hk
      omega
theorem mk_log {C CL CB : Addr} {σ : L2.St} {H : Hp} {fl w c : Addr} {as : List Addr} {ws : List Int} {ps : List (List V)} {Q : VK} (h2 : σ[2]? = some (some (.ref fl))) (FA : FlashAt C H fl w c as ws ps true .non .non) (hl : ps.length ≤ 100) (O : One ps)
    (k : ∀ lg c2 as2 H', WL C CL H' fl w c as ws lg c2 as2 ps .non → Same H H' → (∀ a ∈ c2 :: as2, H a = none) → Q (.ref lg) H') : tMake CL (spLInit C CL CB) [] E0 (tCons (tVar 2) tNil) σ H Q := by
  refine ⟨_, h2, fun lg dl hlg hdl hnl => ?_⟩
  have s2 : Same H (upd (upd H dl (.own lg)) lg (.ins CL dl [])) := fun x o hx => by
    rw [upd_ne (ne_of_none hx hlg), upd_ne (ne_of_none hx hdl)]; exact hx
  have hlf : lg ≠ fl := fun e => by
    obtain ⟨d, h⟩ := FA.ob
    rw [e, h] at hlg; cases hlg
  refine ⟨fl, w, c, as, ws, ps, lg, dl, rfl, upd_same, hlf, FA.same' s2, hl, fun _ c2 as2 H2 W o2 t2 fr => ⟨rfl, ?_⟩, fun hn => absurd O hn⟩
  exact k lg c2 as2 H2 W (fun x o hx => o2 _ _ (s2 _ _ hx) (by rw [List.mem_singleton]; exact ne_of_none hx hlg)) fun a ha => s2.free (fr a ha)
theorem mk_log2 {C CL CB : Addr} {D : Ends} {σ : L2.St} {H : Hp} {fl w c : Addr} {as : List Addr} {ws : List Int} {ps : List (List V)} (FA : FlashAt C H fl w c as ws ps true .non .non) (hl : ps.length ≤ 100) (O : One ps) (h2 : (σ.set 7 (some .non))[2]? = some (some (.ref fl)))
    (k : ∀ lg c2 as2 H', WL C CL H' fl w c as ws lg c2 as2 ps .non → Same H H' → (∀ a ∈ c2 :: as2, H a = none) → D.nx ((σ.set 7 (some .non)).set 3 (some (.ref lg))) H') : tSeq (tAsg (tC V.non) (gName 7)) (tAsg (tMake CL (spLInit C CL CB) [] E0 (tCons (tVar 2) tNil)) (gName 3)) D σ H :=
  mk_log (CB := CB) (Q := fun x H1 => gName 3 x (σ.set 7 (some .non)) H1 D.nx) h2 FA hl O k
def spLaw (K : PySem.W.Frag) : Sp := fun vs H Q _ => ∃ (a : Addr) (ns : List Int), vs = [.ref a] ∧ SqL K H a (ns.map V.int) ∧ ns.length ≤ 63 ∧ ∀ H', Q (.bl true) H'
/-- what the law's loop knows -/
def LI (C CL : Addr) (a tp fl hd wl : Addr) (ts : List Int) (i : Nat) (σ : L2.St) (H : Hp) : Prop := ∃ (lg : Addr) (od fu : Nat) (rm : V) (v9 v10 v11 v12 v13 v14 v15 v16 v17 v18 v19 : Option V) (w c : Addr) (as : List Addr) (ws : List Int) (c2 : Addr) (as2 : List Addr) (ps : List (List V)) (hs : List Addr) (pz : List (List V)) (qs : List (List (Option Nat))),
  σ = [some (.ref a), some (.ref tp), some (.ref fl), some (.ref lg), some (.ref hd), some (.ref wl), some (.int (od : Int)), some rm, some (.int (fu : Int)), v9, v10, v11, v12, v13, v14, v15, v16, v17, v18, v19, none, none] ∧
  IJ C CL H tp fl lg hd wl ts od rm w c as ws c2 as2 ps hs pz qs ∧ od ≤ i ∧ (rm = .non ∨ ∃ l : Nat, rm = .int (l : Int))
section
variable {P : Program} {wd : World} {K : PySem.W.Frag} {mg : Str → Option Value} {base : Heap} {f C CL CN CP CS CB CR fW fB fT fA fFI fLI fFl fCu fCh fTa fDo fAp fSa fOr fRe fIm : Addr} {fd fdT fdA fdFI fdLI fdFl fdCu fdCh fdTa fdDo fdAp fdSa fdOr fdRe fdIm : FuncData}
abbrev LN : List Str := ["script","tape","flash","log","held","wears","order","left","fuses","k","number","pick","chosen","act","what","is_copy","block","content","done","choice","n","row"]
theorem scLaw : FnScope LN ["script"] (defScope sLaw) := ⟨rfl, rfl, rfl, by decide +kernel, rfl, by decide +kernel, by decide +kernel⟩
theorem ok_law (F : Fun K "law" "law" sLaw f fd) (T : FT K mg C CN CP CS fW fB) (Y : LT K mg CL) (mm : mg "max" = none)
    (GT : Def P wd K mg base CX0 "_law_tape" 1 ["script"] (spTape K) fT fdT) (GA : Def P wd K mg base CX0 "_law_at" 1 ["tape", "k"] (spAt K) fA fdA)
    (M : Mk K C fFI) (GFI : FnOk P wd K mg base (L2.CX P wd) 3 fFI fdFI ["self","blocks"] (spInit C CN)) (bFI : Binds K fdFI ["self","blocks"] [])
    (ML : Mk K CL fLI) (GI : FnOk P wd K mg base (L2.CX P wd) 7 fLI fdLI ["self","flash"] (spLInit C CL CB)) (bI : Binds K fdLI ["self","flash"] [])
    (GFl : MDef P wd K mg base (L2.CX P wd) C "fail_after" 3 ["self", "count"] (spFail K C CN) fFl fdFl) (GCu : MDef P wd K mg base (L2.CX P wd) C "cut" 3 ["self", "choice"] (spCut C CN) fCu fdCu)
    (GCh : Def P wd K mg base CX0 "_law_choose" 4 ["held","number","pick","order"] spChoose fCh fdCh) (GTa : Def P wd K mg base CX0 "_law_target" 3 ["held","wears"] spTarget fTa fdTa)
    (GDo : Def P wd K mg base CX0 "_law_do" 9 ["log", "act", "what", "is_copy"] (spDo C CL CP) fDo fdDo) (GAp : Def P wd K mg base CX0 "_law_apply" 2 ["held","wears","act","block","content"] spApply fAp fdAp)
    (GS : Def P wd K mg base CX0 "_law_same" 8 ["log","held"] (spSame C CL) fSa fdSa) (GOr : Def P wd K mg base CX0 "_law_orders" 2 ["held"] spOrders fOr fdOr)
    (GD : Def P wd K mg base CX0 "_law_reads" 8 ["log","held"] (spReads C CL) fRe fdRe) (GG : MDef P wd K mg base CX0 C "image" 1 ["self"] (spImage C) fIm fdIm) : FnOk P wd K mg base CX0 10 f fd ["script"] (spLaw K) := by
  refine F.ok scLaw (fun vs H Q E h => ?_) (fun cdv A outer s H vs Q E hr h => ?_)
  · obtain ⟨a, ns, rfl, _⟩ := h
    rfl
  · obtain ⟨a, ns, rfl, hS, hlen, q⟩ := h
    have hr1 : Room 1 _ := hr.mono (by decide)
    have hr2 : Room 2 _ := hr.mono (by decide)
    have hr3 : Room 3 _ := hr.mono (by decide)
    have hr4 : Room 4 _ := hr.mono (by decide)
    have hr8 : Room 8 _ := hr.mono (by decide)
    refine ⟨_, (pss_cons (ps_set (i := 1) scLaw.nd rfl (Or.inl rfl) (pe_call GT.ok hr1 (by rfl) GT.mg GT.kp GT.bd .nil pass0 (pa_cons (pv 0) pa_nil)))
      (pss_cons (ps_set (i := 2) scLaw.nd rfl (Or.inl rfl) (pe_make M GFI hr4 (by rfl) T.gC bFI .nil passL (pa_cons pe_int pa_nil)))
      (pss_cons (ps_set (i := 3) scLaw.nd rfl (Or.inl rfl) (pe_make ML GI hr8 (by rfl) Y.gL bI .nil passL (pa_cons (pv 2) pa_nil)))
      (pss_cons (ps_setLc (i := 4) (own := [("block", 16)]) (g := gName 16) (tt := tYes) (te := tRow8) (by rfl) scLaw.nd rfl rfl (sw_true rfl rfl rfl (by decide +kernel)) (pi_range1 (by rfl) T.bt.range (pa_cons pe_int pa_nil)) (blkOk_by (own := [("block", 16)]) (N := ["script", "tape", "flash", "log", "held", "wears", "order", "left", "fuses", "k", "number", "pick", "chosen", "act", "what", "is_copy", "block", "content", "done", "choice", "n", "row"]) (sc := defScope sLaw) (by decide +kernel)) (fun _ _ _ _ _ => pg_name (i := 16) scLaw.nd rfl (Or.inl rfl)) (fun _ _ _ _ _ => pts_nil) (fun _ _ _ _ _ => by exact (pe_op op_rep (pe_lst (pa_cons pe_non pa_nil)) pe_int)))
      (pss_cons (ps_set (i := 5) scLaw.nd rfl (Or.inl rfl) (pe_op op_rep (pe_lst (pa_cons pe_int pa_nil)) pe_int))
      (pss_cons (ps_set (i := 6) scLaw.nd rfl (Or.inl rfl) pe_int)
      (pss_cons (ps_set (i := 7) scLaw.nd rfl (Or.inl rfl) pe_non)
      (pss_cons (ps_set (i := 8) scLaw.nd rfl (Or.inl rfl) pe_int)
      (pss_cons (ps_for PassesOwn.never rfl (pi_range1 (by rfl) T.bt.range (pa_cons (pe_callB (call_min2 rfl) (by rfl) Y.s_min (by decide +kernel) (pa_cons pe_int (pa_cons (pe_callB (call_max2 rfl) (by rfl) mm (by decide +kernel) (pa_cons pe_int (pa_cons (pe_op op_sub (pe_callB call_len_seq (by rfl) T.bt.len PySem.boot_len (pa_cons (pv 1) pa_nil)) pe_int) pa_nil))) pa_nil))) pa_nil)) (pg_name (i := 9) scLaw.nd rfl (Or.inl rfl))
      (pss_cons (ps_set (i := 10) scLaw.nd rfl (Or.inl rfl) (pe_call GA.ok hr1 (by rfl) GA.mg GA.kp GA.bd .nil pass0 (pa_cons (pv 1) (pa_cons (pv 9) pa_nil))))
      (pss_cons (ps_set (i := 11) scLaw.nd rfl (Or.inl rfl) (pe_call GA.ok hr1 (by rfl) GA.mg GA.kp GA.bd .nil pass0 (pa_cons (pv 1) (pa_cons (pe_op op_add (pv 9) pe_int) pa_nil))))
      (Evl.pss_cut (ps_if (PW.pt (pw_and (pt_cmpR op_isN (pv 7) pe_non (nomark _)) (pw_and (pt_cmpR op_lt (pv 8) pe_int (nomark _)) (pw_and1 (pt_cmpR op_eq (pe_op op_mod (pv 10) pe_int) pe_int (nomark _))))))
      (pss_cons (ps_set (i := 7) scLaw.nd rfl (Or.inl rfl) (pe_op op_mod (pv 11) pe_int))
      (pss_cons (ps_set (i := 8) scLaw.nd rfl (Or.inl rfl) (pe_op op_add (pv 8) pe_int))
      (pss_one (ps_expr (pe_meth (pv 2) T.cl GFl.me GFl.ok hr3 GFl.bd .nil passL (pa_cons (pv 7) pa_nil)))))) pss_nil)
      (pss_cons (ps_set (i := 12) scLaw.nd rfl (Or.inl rfl) (pe_call GCh.ok hr4 (by rfl) GCh.mg GCh.kp GCh.bd .nil pass0 (pa_cons (pv 4) (pa_cons (pe_op op_fdiv (pv 10) pe_int) (pa_cons (pv 11) (pa_cons (pv 6) pa_nil))))))
      (Evl.pss_cut (ps_if (pt_cmpR op_notN (pv 12) pe_non (nomark _))
      (pss_cons (ps_asg (pv 12) (pg_tup (by rfl) (pgs_cons (pg_name (i := 13) scLaw.nd rfl (Or.inl rfl)) (pgs_cons (pg_name (i := 14) scLaw.nd rfl (Or.inl rfl)) (pgs_cons (pg_name (i := 15) scLaw.nd rfl (Or.inl rfl)) L2.pgs_nil)))))
      (pss_cons (ps_set (i := 16) scLaw.nd rfl (Or.inl rfl) (pv 14))
      (pss_cons (ps_set (i := 17) scLaw.nd rfl (Or.inl rfl) pe_non)
      (pss_cons (ps_if (pt_cmpR op_eq (pv 13) pe_str (nomark _))
      (pss_cons (ps_set (i := 16) scLaw.nd rfl (Or.inl rfl) (pe_call GTa.ok hr3 (by rfl) GTa.mg GTa.kp GTa.bd .nil pass0 (pa_cons (pv 4) (pa_cons (pv 5) pa_nil))))
      (pss_one (ps_set (i := 17) scLaw.nd rfl (Or.inl rfl) (pv 14)))) pss_nil)
      (pss_cons (ps_set (i := 18) scLaw.nd rfl (Or.inl rfl) (pe_call GDo.ok hr (by rfl) GDo.mg GDo.kp GDo.bd .nil pass0 (pa_cons (pv 3) (pa_cons (pv 13) (pa_cons (pv 14) (pa_cons (pv 15) pa_nil))))))
      (pss_cons (ps_if (pt_cmpR op_ne (pv 18) (pe_or (pe_cmpR op_isN (pv 7) pe_non (nomark _)) (pe_one (pe_cmpR op_gt (pv 7) pe_int (nomark _)))) (nomark _))
      (pss_one (ps_ret pe_bl)) pss_nil)
      (pss_cons (ps_if (pt_val (pv 18))
      (pss_cons (ps_expr (pe_call GAp.ok hr2 (by rfl) GAp.mg GAp.kp GAp.bd .nil pass0 (pa_cons (pv 4) (pa_cons (pv 5) (pa_cons (pv 13) (pa_cons (pv 16) (pa_cons (pv 17) pa_nil)))))))
      (pss_one (ps_if (pt_cmpR op_notN (pv 7) pe_non (nomark _))
      (pss_one (ps_set (i := 7) scLaw.nd rfl (Or.inl rfl) (pe_op op_sub (pv 7) pe_int))) pss_nil))) (pss_cons (ps_set (i := 19) scLaw.nd rfl (Or.inl rfl) (pe_op op_mod (pv 11) pe_int))
      (pss_cons (ps_if (pt_cmpR op_gt (pv 19) pe_int (nomark _))
      (pss_one (ps_expr (pe_call GAp.ok hr2 (by rfl) GAp.mg GAp.kp GAp.bd .nil pass0 (pa_cons (pv 4) (pa_cons (pv 5) (pa_cons (pv 13) (pa_cons (pv 16) (pa_cons (pe_ix ix_list (pe_lst (pa_cons (pv 17) (pa_cons pe_str pa_nil))) (pe_op op_sub (pv 19) pe_int) (fun _ _ => rfl)) pa_nil)))))))) pss_nil)
      (pss_cons (ps_expr (pe_meth (pv 2) T.cl GCu.me GCu.ok hr3 GCu.bd .nil passL (pa_cons (pv 19) pa_nil)))
      (pss_cons (ps_set (i := 7) scLaw.nd rfl (Or.inl rfl) pe_non)
      (pss_one (ps_set (i := 3) scLaw.nd rfl (Or.inl rfl) (pe_make ML GI hr8 (by rfl) Y.gL bI .nil passL (pa_cons (pv 2) pa_nil)))))))))
      (pss_one (ps_if (PW.pt (pw_and (pt_cmpR op_eq (pv 13) pe_str (nomark _)) (pw_and (pt_not (pt_val (pv 15))) (pw_and1 (PW.pt (pw_or (pt_val (pv 18)) (pw_or1 (pt_cmpR op_eq (pe_op op_mod (pv 11) pe_int) pe_int (nomark _)))))))))
      (pss_one (ps_set (i := 6) scLaw.nd rfl (Or.inl rfl) (pe_op op_add (pv 6) pe_int))) pss_nil))))))))) pss_nil)
      (pss_cons (ps_if (pt_not (pt_val (pe_call GS.ok hr8 (by rfl) GS.mg GS.kp GS.bd .nil pass0 (pa_cons (pv 3) (pa_cons (pv 4) pa_nil)))))
      (pss_one (ps_ret pe_bl)) pss_nil)
      (pss_one (ps_if (pt_cmpR (op_neD hr.units) (pe_call GOr.ok hr2 (by rfl) GOr.mg GOr.kp GOr.bd .nil pass0 (pa_cons (pv 4) pa_nil)) (pe_lc (own := [("n", 20)]) (g := gName 20) (tt := tYes) (te := tOp (rI0 fun i j => V.int (i + j)) (tC (.int 1)) (tVar 20)) (by rfl) scLaw.nd (pi_range1 (by rfl) T.bt.range (pa_cons (pv 6) pa_nil)) (blkOk_by (own := [("n", 20)]) (N := ["script", "tape", "flash", "log", "held", "wears", "order", "left", "fuses", "k", "number", "pick", "chosen", "act", "what", "is_copy", "block", "content", "done", "choice", "n", "row"]) (sc := defScope sLaw) (by decide +kernel)) (fun _ _ _ _ _ => pg_name (i := 20) scLaw.nd rfl (Or.inl rfl)) (fun _ _ _ _ _ => pts_nil) (fun _ _ _ _ _ => by exact (pe_op op_add pe_int (pv 20)))) (nomark _))
      (pss_one (ps_ret pe_bl)) pss_nil)))))))))
      (pss_one (ps_ret (pe_and (pe_call GD.ok hr8 (by rfl) GD.mg GD.kp GD.bd .nil pass0 (pa_cons (pv 3) (pa_cons (pv 4) pa_nil))) (pe_one (pe_cmpR (op_eqD hr.units) (pe_lc (own := [("row", 21)]) (g := gName 21) (tt := tYes) (te := tOp (rIxT K) (tVar 21) (tC (.int 1))) (by rfl) scLaw.nd (pi_list (pe_meth0 (pv 2) T.cl GG.me GG.ok hr1 GG.bd .nil pass0)) (blkOk_by (own := [("row", 21)]) (N := ["script", "tape", "flash", "log", "held", "wears", "order", "left", "fuses", "k", "number", "pick", "chosen", "act", "what", "is_copy", "block", "content", "done", "choice", "n", "row"]) (sc := defScope sLaw) (by decide +kernel)) (fun _ _ _ _ _ => pg_name (i := 21) scLaw.nd rfl (Or.inl rfl)) (fun _ _ _ _ _ => pts_nil) (fun _ _ _ _ _ => by exact (pe_ix ix_tup (pv 21) pe_int (fun _ _ => rfl)))) (pv 4) (nomark _))))))))))))))), ?_⟩
    refine ⟨_, rfl, a, ns, rfl, hS, hlen, fun tp ts htp hts htl => ?_⟩
    have htape : (upd H tp (.lst (ts.map V.int))) tp = some (.lst (ts.map V.int)) := upd_same
    generalize upd H tp (.lst (ts.map V.int)) = H0 at htape
    -- flash
    intro fl dx hfl hdx hne
    have s1 : Same H0 (upd (upd H0 dx (.own fl)) fl (.ins C dx [])) := fun x o hx => by
      rw [upd_ne (ne_of_none hx hfl), upd_ne (ne_of_none hx hdx)]; exact hx
    refine ⟨fl, dx, 8, rfl, upd_same, fun m hm h8 h24 w c as H1 FA hw hc has o1 t1 => ⟨rfl, ?_⟩, fun hn => absurd ⟨by omega, by omega⟩ hn⟩
    obtain rfl : m = 8 := by omega
    have s01 : Same H0 H1 := fun x o hx => o1 _ _ (s1 _ _ hx) (by rw [List.mem_singleton]; exact ne_of_none hx hfl)
    -- log
    refine ⟨_, rfl, fun lg dl hlg hdl hnl => ?_⟩
    have s2 : Same H1 (upd (upd H1 dl (.own lg)) lg (.ins CL dl [])) := fun x o hx => by
      rw [upd_ne (ne_of_none hx hlg), upd_ne (ne_of_none hx hdl)]; exact hx
    have hlf : lg ≠ fl := fun e => by
      obtain ⟨d, h⟩ := FA.ob
      rw [e, h] at hlg; cases hlg
    have hbl := blks_new 8
    refine ⟨fl, w, c, as, List.replicate 8 0, List.replicate 8 [], lg, dl, rfl, upd_same, hlf, FA.same' s2, by simp, fun _ c2 as2 H2 W o2 t2 fr => ⟨rfl, ?_⟩, fun hn => absurd (by rw [hbl]; exact Nat.zero_le _) hn⟩
    have s12 : Same H1 H2 := fun x o hx => o2 _ _ (s2 _ _ hx) (by rw [List.mem_singleton]; exact ne_of_none hx hlg)
    have ht2 := s12 _ _ (s01 _ _ htape)
    -- tp is none of theirs
    have tpn : tp ∉ own fl w c c2 as as2 := fun hm => by
      have e1 := s1 _ _ htape
      unfold own at hm
      simp only [List.mem_cons, List.mem_append] at hm
      rcases hm with e | e | e | e | e | e
      · rw [e, hfl] at htape; cases htape
      · rw [← e, e1] at hw; cases hw
      · rw [← e, e1] at hc; cases hc
      · have := s2.free (fr c2 (by simp)); rw [← e, s01 _ _ htape] at this; cases this
      · have := has tp e; rw [e1] at this; cases this
      · have := s2.free (fr tp (by simp [e])); rw [s01 _ _ htape] at this; cases this
    -- held
    refine ⟨_, rfl, by decide, by decide, fun hd hhd => ?_⟩
    refine rows_lc (j := 16) (n := 8) hhd (fun _ => rfl) (by omega) fun H3 hs s3 g3 hnew => ?_
    -- wears
    refine ⟨by show 1 ≤ sizeLine; decide, fun l hl => ⟨l, 8, [.int 0], rfl, rfl, upd_same, by decide, by decide, by show 8 ≤ sizeLine; decide, fun wl hwl => ?_⟩⟩
    have s4 : Same H3 (upd (upd H3 l (.lst [V.int 0])) wl (.lst (List.replicate (8 : Int).toNat [V.int 0]).flatten)) := (same_new hl).trans (same_new hwl)
    have hwl4 : (upd (upd H3 l (.lst [V.int 0])) wl (.lst (List.replicate (8 : Int).toNat [V.int 0]).flatten)) wl = some (.lst ((List.replicate 8 (0 : Int)).map V.int)) := by rw [upd_same]; rfl
    have hwl3 : H3 wl = Option.none := (same_new hl).free hwl
    generalize upd (upd H3 l (.lst [V.int 0])) wl (.lst (List.replicate (8 : Int).toNat [V.int 0]).flatten) = H4 at s4 hwl4
    have s24 := s3.trans s4
    have own2 := own_some W
    have newN : ∀ x, H2 x = Option.none → x ∉ own fl w c c2 as as2 := fun x hx hm => by
      obtain ⟨u, hu⟩ := own2 x hm
      rw [hx] at hu; cases hu
    have nwh : wl ≠ hd := fun e => by rw [e, g3.ls] at hwl3; cases hwl3
    have nws : wl ∉ hs := fun h => by
      obtain ⟨xs, e⟩ := grid_some g3 h
      rw [hwl3] at e; cases e
    have J0 : IJ C CL H4 tp fl lg hd wl ts 0 .non w c as (List.replicate 8 0) c2 as2 (List.replicate 8 []) hs (List.replicate 8 []) (List.replicate 8 []) := by
      refine ⟨W.same s24, ⟨g3.same s4, (W.same s24).fa.pg, hwl4, rfl, nwh, nws⟩, psr_new 8, psr_new 8, rfl, s24 _ _ ht2, fun x hx => ?_, fun h => ?_, ord_new 8, by unfold One; rw [hbl]; exact Nat.zero_le _⟩
      · rcases List.mem_cons.mp hx with e | hx
        · rw [e]; exact tpn
        rcases List.mem_cons.mp hx with e | hx
        · rw [e]; exact newN hd hhd
        rcases List.mem_cons.mp hx with e | hx
        · rw [e]; exact newN wl (s3.free hwl3)
        · exact newN x (hnew x hx)
      · rcases List.mem_cons.mp h with e | h
        · rw [← e, ht2] at hhd; cases hhd
        rcases List.mem_cons.mp h with e | h
        · rw [← e, s3 _ _ ht2] at hwl3; cases hwl3
        · have := hnew tp h; rw [ht2] at this; cases this
    clear hwl3 nwh nws newN own2 s24 hwl4 s4 hwl hl hnew g3 s3 hhd tpn ht2 s12 fr t2 o2 W hbl hlf s2 hnl hdl hlg s01 t1 o1 has hc hw FA h24 h8 hm s1 hne hdx hfl htape
    generalize H4 = H4' at J0
    refine ⟨_, rfl, tp, _, rfl, .inl (SqL.of J0.ht), _, _, rfl, rfl, 0, _, rfl, 90, _, rfl, _, rfl, ?_, ?_, ?_⟩
    · rw [List.length_map]; split <;> (split <;> omega)
    · rw [List.length_map]; split <;> (split <;> omega)
    refine for_range (lo := 0) (fun i σ' H' => LI C CL a tp fl hd wl ts i σ' H') ⟨lg, 0, 0, .non, none, none, none, none, none, none, none, none, none, none, none, w, c, as, _, c2, as2, _, hs, _, _, rfl, J0, Nat.le_refl _, .inl rfl⟩ ?_ ?_
    · rintro i σ' H8 hi ⟨lg, od, fu, rm, v9, v10, v11, v12, v13, v14, v15, v16, v17, v18, v19, w, c, as, ws, c2, as2, ps, hs, pz, qs, rfl, J, hod, hrm⟩
      have hi90 : i < 90 := by
        rw [List.length_map] at hi
        split at hi <;> (split at hi <;> omega)
      obtain ⟨b0, b1⟩ := hts.at i
      obtain ⟨c0, c1⟩ := hts.at (i + 1)
      refine ⟨_, rfl, _, rfl, tp, ts, i, vs2 (by omega), SqL.of J.ht, ?_⟩
      refine ⟨_, rfl, _, rfl, _, _, rfl, rfl, tp, ts, i + 1, vs2 (by omega), SqL.of J.ht, ?_⟩
      generalize ts.getD i 0 = nu at b0 b1
      generalize ts.getD (i + 1) 0 = pk at c0 c1
      refine ⟨fun σ' H' => ∃ (fu : Nat) (rm : V), σ' = [some (.ref a), some (.ref tp), some (.ref fl), some (.ref lg), some (.ref hd), some (.ref wl), some (.int (od : Int)), some rm, some (.int (fu : Int)), some (.int (0 + (i : Int))), some (.int nu), some (.int pk), v12, v13, v14, v15, v16, v17, v18, v19, none, none] ∧
        IJ C CL H' tp fl lg hd wl ts od rm w c as ws c2 as2 ps hs pz qs ∧ (rm = .non ∨ ∃ l : Nat, rm = .int (l : Int)), ?_, ?_⟩
      · obtain ⟨dxf, hfo⟩ := id J.wd.fa.ob
        refine ⟨_, rfl, rfl, _, rfl, ?_⟩
        rcases hrm with rfl | ⟨l, rfl⟩
        rotate_left
        · rw [show decide (V.int (l : Int) = V.non) = false by simp]
          exact iteF (iteF ⟨fu, _, rfl, J, .inr ⟨l, rfl⟩⟩)
        rw [show decide (V.non = V.non) = true by simp]
        refine iteT ⟨_, rfl, _, _, rfl, rfl, _, rfl, ?_⟩
        refine ite2 (fun _ => ?_) (fun _ => iteF ⟨fu, _, rfl, J, .inl rfl⟩)
        refine ⟨_, rfl, _, _, rfl, rfl, (by show (0:Int) < _; decide), rfl, _, rfl, ?_⟩
        refine ite2 (fun _ => ?_) (fun _ => ⟨fu, _, rfl, J, .inl rfl⟩)
        refine ⟨_, rfl, _, _, rfl, rfl, (by show (0:Int) < _; decide), ?_⟩
        refine ⟨_, rfl, _, _, rfl, rfl, ?_⟩
        refine ⟨_, rfl, fl, dxf, _, rfl, hfo, ff_no (by decide +kernel), _, rfl, fl, w, c, as, ws, ps, true, .non, .non, .int (pk % 7), rfl, J.wd.fa, .inl ⟨.inr ⟨_, rfl, by omega, by omega⟩, fun H' FA o tt => ?_⟩⟩
        exact ⟨fu + 1, .int (pk % 7), rfl, J.fuse FA o tt, .inr ⟨(pk % 7).toNat, by rw [Int.toNat_of_nonneg (by omega)]⟩⟩
      clear J hrm rm fu
      rintro σ' H9 ⟨fu, rm, rfl, J, hrm⟩
      have hrm' : rm = .non ∨ ∃ r : Int, rm = .int r := hrm.elim .inl fun ⟨l, e⟩ => .inr ⟨_, e⟩
      have hql := J.pq.length
      have hzl := J.zq.length
      have hpl := J.len
      refine ⟨_, rfl, _, rfl, _, _, rfl, rfl, ⟨by decide, by decide⟩, _, rfl, _, rfl, hd, hs, pz, qs, _, pk, od, rfl, by omega, c0, J.he, J.zq, fun H10 s10 => ?_, fun b xs q t H10 s10 hx hq hcl hl ht0 ht => ?_, fun r n t H10 s10 hr hn hmem hroom ht0 ht => ?_, fun r t H10 s10 hr hroom ht0 ht => ?_⟩
      · refine ⟨fun σ' H' => LI C CL a tp fl hd wl ts (i + 1) σ' H', ?_, ?_⟩
        · refine ⟨_, rfl, rfl, _, rfl, ?_⟩
          rw [show (!decide (V.non = V.non)) = false by simp]
          exact iteF ⟨lg, od, fu, rm, _, _, _, _, _, _, _, _, _, _, _, w, c, as, ws, c2, as2, ps, hs, pz, qs, rfl, J.same s10, by omega, hrm⟩
        rintro σ' H11 ⟨lg, od, fu, rm, v9, v10, v11, v12, v13, v14, v15, v16, v17, v18, v19, w, c, as, ws, c2, as2, ps, hs, pz, qs, rfl, J, hod, hrm⟩
        refine ⟨_, rfl, _, rfl, lg, fl, c2, as2, ps, pz, qs, hd, hs, rfl, J.wd.lo, J.he, J.pq, J.zq, fun H12 s12 => ⟨true, rfl, iteF ?_⟩⟩
        have J12 := J.same s12
        refine ⟨_, rfl, hd, hs, pz, qs, rfl, J12.he, J12.zq, fun q hq n hn => ?_, fun l ns H13 s13 hl st mem => ?_⟩
        · have := (J.od n).mp ⟨q, hq, hn⟩
          omega
        refine ⟨_, rfl, _, rfl, by omega, by omega, fun D hD => ?_⟩
        rw [Int.toNat_natCast]
        refine lc_rngV ((List.range od).map fun k : Nat => V.int ((1 + k : Nat) : Int)) (by simp) hD (fun _ => rfl) (by omega) (fun k y H' Q' hy sm q' => ?_) fun H14 s14 hDl => ?_
        · obtain ⟨k', hk, rfl⟩ := map_get hy
          have hk : k' = k := by
            have := (List.getElem?_eq_some_iff.mp hk).2
            simpa using this.symm
          subst hk
          have e : (1 : Int) + (0 + (k' : Int)) = ((1 + k' : Nat) : Int) := by omega
          have q2 := q' H' (Same.refl H')
          rw [← e] at q2
          exact ⟨_, rfl, _, _, rfl, rfl, q2⟩
        have en := ord_list J.od st mem
        have hDl' : H14 D = some (.lst (ns.map fun k : Nat => V.int (k : Int))) := by rw [hDl, en, List.map_map]; rfl
        refine ⟨_, _, nats_at (K := K) (s14 _ _ hl), nats_at (K := K) hDl', nats_sh _, nats_sh _, _, rfl, ?_⟩
        rw [SeqAt.eqv_refl _ (SeqAt.canLay_of_shaped (nats_sh _))]
        exact iteF ⟨lg, od, fu, rm, _, _, _, _, _, _, _, _, _, _, _, w, c, as, ws, c2, as2, ps, hs, pz, qs, rfl, J12.same (s13.trans s14), hod, hrm⟩
      · refine ⟨fun σ' H' => LI C CL a tp fl hd wl ts (i + 1) σ' H', ?_, ?_⟩
        · have J10 := J.same s10
          refine ⟨_, rfl, rfl, _, rfl, ?_⟩
          rw [show (!decide (V.ref t = V.non)) = true by simp]
          refine iteT ⟨_, rfl, t, _, rfl, SqT.of ht, rfl, _, _, rfl, _, _, rfl, _, _, rfl, rfl, ?_⟩
          refine ⟨_, rfl, _, rfl, rfl, _, rfl, ?_⟩
          rw [str_eqF (by decide)]
          refine iteF ?_
          have hlens : ps.map List.length = pz.map List.length := (psr_lens J.pq).trans (psr_lens J.zq).symm
          have hbz := (List.getElem?_eq_some_iff.mp hx).1
          have hxp : ps[b]? = some (ps[b]'(by omega)) := List.getElem?_eq_getElem _
          have hxl : (ps[b]'(by omega)).length = xs.length := by
            have := congrArg (fun l => l[b]?) hlens
            simp only [List.getElem?_map, hxp, hx, Option.map_some] at this
            exact Option.some.inj this
          generalize ps[b]'(by omega) = xp at hxp hxl
          have hlw := J.lh.lw
          have hwv : ws[b]? = some (ws[b]'(by omega)) := List.getElem?_eq_getElem _
          generalize ws[b]'(by omega) = wv at hwv
          have hb8 := (List.getElem?_eq_some_iff.mp hxp).1
          have orde := fun (q' : List (Option Nat)) (h' : ∀ n, some n ∉ q') => J.od.era hq hl h'
          have era0 : era V.non = [] := if_pos rfl
          refine ⟨_, rfl, _, rfl, _, rfl, _, rfl, fl, w, c, as, ws, lg, c2, as2, ps, rm, "erase", .int (b : Int), false, rfl, J10.wd, hrm', .inr ⟨rfl, b, xp, wv, rfl, hxp, by rw [hxl]; exact hcl, hwv, fun hz t' H11 ht' hH FA o tt => ?_, fun hne as' as2' H11 W o tt fr => ?_⟩⟩
          · subst hz
            have nof : ∀ x ∈ tp :: hd :: wl :: hs, x ∉ fl :: w :: c :: as := fun x hx h => J.no x hx (flash_sub h)
            have nof1 : ∀ x ∈ tp :: hd :: wl :: hs, x ∉ [fl] := fun x hx h => nof x hx (by rw [List.mem_singleton.mp h]; exact List.mem_cons_self)
            have ht11 : H11 tp = some (.lst (ts.map V.int)) := o _ _ J10.ht (nof1 tp List.mem_cons_self)
            have L11 := J10.lh.off o tt fun x hx => nof1 x (List.mem_cons_of_mem _ hx)
            have P11 := J10.pq.tups tt
            have Z11 := J10.zq.tups tt
            refine ⟨_, rfl, _, rfl, rfl, _, rfl, ?_⟩
            rw [show decide (V.int 0 = V.non) = false by simp]
            refine iteF ⟨_, rfl, _, _, rfl, rfl, rfl, _, rfl, ?_⟩
            refine ite2 (fun hb => absurd hb (by simp)) (fun _ => ?_)
            refine ⟨_, rfl, false, rfl, iteF ?_⟩
            refine ⟨_, rfl, _, _, rfl, rfl, (by show (0:Int) < _; decide), ?_⟩
            refine ⟨_, rfl, _, _, rfl, rfl, _, rfl, ?_⟩
            refine ite2 (fun hb => ?_) (fun hb => ?_)
            · have hb : 0 < pk % 3 := of_decide_eq_true hb
              have hch : pk % 3 = 1 ∨ pk % 3 = 2 := by omega
              obtain ⟨cv, qc, hcv, hat, R, hqc, pgc, hst⟩ : ∃ (cv : V) (qc : List (Option Nat)), cutV' (pk % 3) V.non = cv ∧ atI [V.non, V.str "torn"] (pk % 3 - 1) = some cv ∧ (∀ H' : Hp, Paired (PgR H') (era cv) qc) ∧ (∀ n, some n ∉ qc) ∧ (∀ H' : Hp, cv = .non ∨ PgN H' cv) ∧ stS (era cv).length ≠ "open" := by
                rcases hch with e | e
                · refine ⟨.non, [], by unfold cutV'; rw [if_pos e], ?_, fun H' => by rw [era0]; exact .nil, fun n h => (by cases h), fun H' => .inl rfl, by rw [era0]; decide⟩
                  rw [show pk % 3 - 1 = ((0 : Nat) : Int) by omega]; exact atI_nat (j := 0) rfl
                · refine ⟨torn, List.replicate 8 none, by unfold cutV'; rw [if_neg (by omega)]; rfl, ?_, fun H' => by unfold era; rw [if_neg (by intro z; cases z)]; exact paired_era (.inl ⟨rfl, rfl⟩) 8, fun n h => (by have := (List.mem_replicate.mp h).2; cases this), fun H' => .inr (.inl rfl), by unfold era; rw [if_neg (by intro z; cases z)]; decide⟩
                  rw [show pk % 3 - 1 = ((1 : Nat) : Int) by omega]; exact atI_nat (j := 1) rfl
              refine ⟨_, rfl, _, rfl, _, rfl, _, rfl, _, rfl, by show 2 ≤ sizeLine; decide, fun l hl => ?_⟩
              have sl := same_new (o := .lst [V.non, V.str "torn"]) hl
              refine ⟨_, rfl, _, _, rfl, rfl, l, _, _, cv, rfl, rfl, SqL.of upd_same, hat, ?_⟩
              have L1l := L11.same sl
              have FAl := FA.same' sl
              have htl := sl _ _ ht11
              have hHl := sl _ _ hH
              have P1l := P11.tups (same_tups sl)
              have Z1l := Z11.tups (same_tups sl)
              generalize upd H11 l (.lst [V.non, V.str "torn"]) = Hl at L1l FAl htl hHl P1l Z1l ⊢
              refine ⟨hd, hs, pz, wl, ws, "erase", b, cv, rfl, L1l, by omega, .inr ⟨rfl, pgc _, wv, hwv, fun q2 H12 hq2 L2 o2 t2 => ?_⟩⟩
              have flS : ∀ x ∈ fl :: w :: c :: as, ∃ u, Hl x = some u := fun x hx => by
                rcases List.mem_cons.mp hx with e | hx
                · obtain ⟨d, h⟩ := FAl.ob
                  exact ⟨_, by rw [e]; exact h⟩
                rcases List.mem_cons.mp hx with e | hx
                · exact ⟨_, by rw [e]; exact FAl.wl⟩
                rcases List.mem_cons.mp hx with e | hx
                · exact ⟨_, by rw [e]; exact FAl.gr.ls⟩
                obtain ⟨ys, h⟩ := grid_some FAl.gr hx
                exact ⟨_, h⟩
              have set2 : ∀ x ∈ tp :: hd :: wl :: hs.set b q2, x ∈ tp :: hd :: wl :: hs ∨ x = q2 := fun x hx => by
                rcases List.mem_cons.mp hx with e | hx
                · exact .inl (by simp [e])
                rcases List.mem_cons.mp hx with e | hx
                · exact .inl (by simp [e])
                rcases List.mem_cons.mp hx with e | hx
                · exact .inl (by simp [e])
                rcases List.mem_or_eq_of_mem_set hx with z | z
                · exact .inl (by simp [z])
                · exact .inr z
              have nof2 : ∀ x ∈ tp :: hd :: wl :: hs.set b q2, x ∉ fl :: w :: c :: as := fun x hx hm => by
                rcases set2 x hx with z | z
                · exact nof x z hm
                · obtain ⟨u, hu⟩ := flS x hm
                  rw [z, hq2] at hu; cases hu
              have nt2 : tp ∉ hd :: wl :: hs.set b q2 := fun h => by
                rcases List.mem_cons.mp h with e | h
                · exact J.nt (by simp [e])
                rcases List.mem_cons.mp h with e | h
                · exact J.nt (by simp [e])
                rcases List.mem_or_eq_of_mem_set h with z | z
                · exact J.nt (by simp [z])
                · rw [← z, htl] at hq2; cases hq2
              have FA12 := FAl.off o2 t2 fun x hx hm => nof x (List.mem_cons_of_mem _ hm) hx
              obtain ⟨dxc, hfc⟩ := id FA12.ob
              have ht12 := o2 _ _ htl J.nt
              refine ⟨_, rfl, fl, dxc, _, rfl, hfc, ff_no (by decide +kernel), _, rfl, fl, w, c, as, ws, ps, false, .int 0, .ref t', pk % 3, rfl, FA12, .inr (.inr ⟨by omega, by omega, t', b, .non, .non, rfl, t2 _ _ hHl, hb8, .inl ⟨rfl, by rw [hcv]; exact pgc _, fun q3 H13 wv' hq3 hwv' FA13 o3 t3 => ?_⟩⟩)⟩
              rw [hwv] at hwv'; cases hwv'
              rw [hcv] at FA13
              have u13 := t2.trans t3
              have L13 := L2.off o3 t3 fun x hx => nof2 x (List.mem_cons_of_mem _ hx)
              have ht13 := o3 _ _ ht12 (nof2 tp List.mem_cons_self)
              have no3 : ∀ x ∈ tp :: hd :: wl :: hs.set b q2, x ∉ fl :: w :: c :: as.set b q3 := fun x hx hm => by
                have old : x ∈ fl :: w :: c :: as ∨ x = q3 := by
                  rcases List.mem_cons.mp hm with e | hm
                  · exact .inl (by simp [e])
                  rcases List.mem_cons.mp hm with e | hm
                  · exact .inl (by simp [e])
                  rcases List.mem_cons.mp hm with e | hm
                  · exact .inl (by simp [e])
                  rcases List.mem_or_eq_of_mem_set hm with z | z
                  · exact .inl (by simp [z])
                  · exact .inr z
                rcases old with z | z
                · exact nof2 x hx z
                · rw [z] at hx
                  rcases List.mem_cons.mp hx with e | hx
                  · rw [e, ht12] at hq3; cases hq3
                  · obtain ⟨ys, e⟩ := L2.some hx
                    rw [hq3] at e; cases e
              refine mk_log2 FA13 (by rw [List.length_set]; omega) (J.one.set hst) (by rfl) fun lg2 c3 as3 H14 W14 s14 fr14 => ?_
              have J14 := IJ.reopened L13 ht13 no3 nt2 (paired_set (P1l.tups u13) (R _)) (paired_set (Z1l.tups u13) (R _)) W14 s14 fr14 (by rw [List.length_set]; exact hpl) (orde qc hqc) (J.one.set hst)
              refine ⟨_, rfl, rfl, _, rfl, ?_⟩
              rw [str_eqF (by decide)]
              exact iteF (iteF ⟨lg2, od, fu, .non, _, _, _, _, _, _, _, _, _, _, _, w, c, _, _, c3, as3, _, _, _, _, rfl, J14, by omega, .inl rfl⟩)
            · have hb : ¬ 0 < pk % 3 := by simpa using hb
              obtain ⟨dxc, hfc⟩ := id FA.ob
              refine ⟨_, rfl, fl, dxc, _, rfl, hfc, ff_no (by decide +kernel), _, rfl, fl, w, c, as, ws, ps, false, .int 0, .ref t', pk % 3, rfl, FA, .inr (.inl ⟨by omega, by omega, .inr ⟨t', _, rfl, hH⟩, .inr (by omega), fun H13 FA13 o3 t3 => ?_⟩)⟩
              have L13 := L11.off o3 t3 fun x hx => nof1 x (List.mem_cons_of_mem _ hx)
              have ht13 := o3 _ _ ht11 (nof1 tp List.mem_cons_self)
              refine mk_log2 FA13 (by omega) J.one (by rfl) fun lg2 c3 as3 H14 W14 s14 fr14 => ?_
              have J14 := IJ.reopened L13 ht13 nof J.nt (P11.tups t3) (Z11.tups t3) W14 s14 fr14 hpl J.od J.one
              refine ⟨_, rfl, rfl, _, rfl, ?_⟩
              rw [str_eqF (by decide)]
              exact iteF (iteF ⟨lg2, od, fu, .non, _, _, _, _, _, _, _, _, _, _, _, w, c, _, _, c3, as3, _, _, _, _, rfl, J14, by omega, .inl rfl⟩)
          · have ht11 : H11 tp = some (.lst (ts.map V.int)) := o _ _ J10.ht (J.no tp List.mem_cons_self)
            have L11 := J10.lh.off o tt fun x hx => J.no x (List.mem_cons_of_mem _ hx)
            have no1 : ∀ x ∈ tp :: hd :: wl :: hs, x ∉ own fl w c c2 as' as2' := fun x hx hm => by
              rcases fr x hm with z | z
              · exact J.no x hx z
              · rcases List.mem_cons.mp hx with e | hx
                · rw [e, J10.ht] at z; cases z
                · obtain ⟨ys, e⟩ := J10.lh.some hx
                  rw [z] at e; cases e
            have after : ∀ q2 H12, H11 q2 = none → LH H12 hd (hs.set b q2) (pz.set b (era .non)) wl (ws.set b (wv + 1)) → Off (hd :: wl :: hs) H11 H12 → Tups H11 H12 → IJ C CL H12 tp fl lg hd wl ts od (remAfter rm) w c as' (ws.set b (wv + 1)) c2 as2' (ps.set b []) (hs.set b q2) (pz.set b []) (qs.set b []) := fun q2 H12 hq2 L2 o2 t2 => by
              rw [era0] at L2
              have t12 := tt.trans t2
              exact IJ.applied W ht11 no1 J.nt L11 L2 o2 t2 (fun x hx => (List.mem_or_eq_of_mem_set hx).elim .inl fun z => .inr (by rw [z]; exact hq2)) (paired_set (J10.pq.tups t12) .nil) (paired_set (J10.zq.tups t12) .nil) (by rw [List.length_set]; exact hpl) (orde [] fun n h => by cases h) (J.one.set (show stS 0 ≠ "open" by decide))
            rcases hrm with rfl | ⟨l, rfl⟩
            · refine ⟨_, rfl, _, rfl, rfl, _, rfl, ?_⟩
              rw [show decide (V.non = V.non) = true by simp]
              refine iteT ⟨rfl, _, rfl, ?_⟩
              rw [show (!decide (V.bl true = V.bl true)) = false by simp]
              refine iteF ⟨_, rfl, true, rfl, iteT ?_⟩
              refine ⟨_, rfl, _, rfl, _, rfl, _, rfl, _, rfl, hd, hs, pz, wl, ws, "erase", b, .non, rfl, L11, by omega, .inr ⟨rfl, .inl rfl, wv, hwv, fun q2 H12 hq2 L2 o2 t2 => ?_⟩⟩
              have J12 := after q2 H12 hq2 L2 o2 t2
              refine ⟨_, rfl, rfl, _, rfl, ?_⟩
              rw [show (!decide (V.non = V.non)) = false by simp]
              refine iteF ?_
              refine ⟨_, rfl, rfl, _, rfl, ?_⟩
              rw [str_eqF (by decide)]
              exact iteF (iteF ⟨lg, od, fu, .non, _, _, _, _, _, _, _, _, _, _, _, w, c, _, _, c2, _, _, _, _, _, rfl, J12, by omega, .inl rfl⟩)
            · refine ⟨_, rfl, _, rfl, rfl, _, rfl, ?_⟩
              rw [show decide (V.int (l : Int) = V.non) = false by simp]
              have hl0 : ¬ (l : Int) = 0 := fun z => hne (by rw [z])
              refine iteF ⟨_, rfl, _, _, rfl, rfl, rfl, _, rfl, ?_⟩
              refine ite2 (fun hb => absurd hb (by simp; omega)) (fun _ => ?_)
              refine ⟨_, rfl, true, rfl, iteT ?_⟩
              refine ⟨_, rfl, _, rfl, _, rfl, _, rfl, _, rfl, hd, hs, pz, wl, ws, "erase", b, .non, rfl, L11, by omega, .inr ⟨rfl, .inl rfl, wv, hwv, fun q2 H12 hq2 L2 o2 t2 => ?_⟩⟩
              have J12 := after q2 H12 hq2 L2 o2 t2
              refine ⟨_, rfl, rfl, _, rfl, ?_⟩
              rw [show (!decide (V.int (l : Int) = V.non)) = true by simp]
              refine iteT ⟨_, rfl, _, _, rfl, rfl, ?_⟩
              refine ⟨_, rfl, rfl, _, rfl, ?_⟩
              rw [str_eqF (by decide)]
              exact iteF (iteF ⟨lg, od, fu, .int ((l : Int) - 1), _, _, _, _, _, _, _, _, _, _, _, w, c, _, _, c2, _, _, _, _, _, rfl, J12, by omega, .inr ⟨l - 1, by congr 1; omega⟩⟩)
        rintro σ' H11 ⟨lg, od, fu, rm, v9, v10, v11, v12, v13, v14, v15, v16, v17, v18, v19, w, c, as, ws, c2, as2, ps, hs, pz, qs, rfl, J, hod, hrm⟩
        refine ⟨_, rfl, _, rfl, lg, fl, c2, as2, ps, pz, qs, hd, hs, rfl, J.wd.lo, J.he, J.pq, J.zq, fun H12 s12 => ⟨true, rfl, iteF ?_⟩⟩
        have J12 := J.same s12
        refine ⟨_, rfl, hd, hs, pz, qs, rfl, J12.he, J12.zq, fun q hq n hn => ?_, fun l ns H13 s13 hl st mem => ?_⟩
        · have := (J.od n).mp ⟨q, hq, hn⟩
          omega
        refine ⟨_, rfl, _, rfl, by omega, by omega, fun D hD => ?_⟩
        rw [Int.toNat_natCast]
        refine lc_rngV ((List.range od).map fun k : Nat => V.int ((1 + k : Nat) : Int)) (by simp) hD (fun _ => rfl) (by omega) (fun k y H' Q' hy sm q' => ?_) fun H14 s14 hDl => ?_
        · obtain ⟨k', hk, rfl⟩ := map_get hy
          have hk : k' = k := by
            have := (List.getElem?_eq_some_iff.mp hk).2
            simpa using this.symm
          subst hk
          have e : (1 : Int) + (0 + (k' : Int)) = ((1 + k' : Nat) : Int) := by omega
          have q2 := q' H' (Same.refl H')
          rw [← e] at q2
          exact ⟨_, rfl, _, _, rfl, rfl, q2⟩
        have en := ord_list J.od st mem
        have hDl' : H14 D = some (.lst (ns.map fun k : Nat => V.int (k : Int))) := by rw [hDl, en, List.map_map]; rfl
        refine ⟨_, _, nats_at (K := K) (s14 _ _ hl), nats_at (K := K) hDl', nats_sh _, nats_sh _, _, rfl, ?_⟩
        rw [SeqAt.eqv_refl _ (SeqAt.canLay_of_shaped (nats_sh _))]
        exact iteF ⟨lg, od, fu, rm, _, _, _, _, _, _, _, _, _, _, _, w, c, as, ws, c2, as2, ps, hs, pz, qs, rfl, J12.same (s13.trans s14), hod, hrm⟩
      · refine ⟨fun σ' H' => LI C CL a tp fl hd wl ts (i + 1) σ' H', ?_, ?_⟩
        · have J10 := J.same s10
          refine ⟨_, rfl, rfl, _, rfl, ?_⟩
          rw [show (!decide (V.ref t = V.non)) = true by simp]
          refine iteT ⟨_, rfl, t, _, rfl, SqT.of ht, rfl, _, _, rfl, _, _, rfl, _, _, rfl, rfl, ?_⟩
          refine ⟨_, rfl, _, rfl, rfl, _, rfl, ?_⟩
          rw [str_eqT]
          refine iteT ?_
          have hlens : ps.map List.length = pz.map List.length := (psr_lens J.pq).trans (psr_lens J.zq).symm
          have hroom' : roomM ps true ≠ 0 := by rw [room_len hlens]; omega
          refine ⟨_, rfl, _, rfl, hd, hs, pz, wl, ws, rfl, J10.he, J10.lh.wr, J10.lh.lw, room_some (cp := true) (by omega), ?_⟩
          refine ⟨_, rfl, ?_⟩
          have hnx : nextM ws ps = nextM ws pz := next_len hlens ws
          obtain ⟨xz, hxz, hx8⟩ := nextM_ok (ws := ws) (fun xs hx => (J.lh.pg xs hx).1) (room_some (cp := true) (by omega : roomM pz true ≠ 0))
          have hbz := (List.getElem?_eq_some_iff.mp hxz).1
          have hxp : ps[nextM ws pz]? = some (ps[nextM ws pz]'(by omega)) := List.getElem?_eq_getElem _
          have hqb : qs[nextM ws pz]? = some (qs[nextM ws pz]'(by omega)) := List.getElem?_eq_getElem _
          have hgd : ps.getD (nextM ws ps) [] = ps[nextM ws pz]'(by omega) := by rw [hnx, List.getD_eq_getElem?_getD, hxp]; rfl
          have one2 := fun xs => J.one.app (ws := ws) (xs := xs)
          rw [hnx] at one2
          have ordn := J.od.app hqb ((J.od n).mp hmem)
          have ordt := J.od.torn hqb
          generalize ps[nextM ws pz]'(by omega) = xp at hxp hgd
          generalize qs[nextM ws pz]'(by omega) = qb at hqb ordn ordt
          refine ⟨_, rfl, _, rfl, _, rfl, _, rfl, fl, w, c, as, ws, lg, c2, as2, ps, rm, "append", r, true, rfl, J10.wd, hrm', .inl ⟨rfl, hr.rp, hroom', fun hz t' H11 ht' hH FA o tt => ?_, fun hne H11 W o tt => ?_⟩⟩
          · subst hz
            rw [hgd, hnx] at hH
            generalize nextM ws pz = b at *
            have nof : ∀ x ∈ tp :: hd :: wl :: hs, x ∉ fl :: w :: c :: as := fun x hx h => J.no x hx (flash_sub h)
            have nof1 : ∀ x ∈ tp :: hd :: wl :: hs, x ∉ [fl] := fun x hx h => nof x hx (by rw [List.mem_singleton.mp h]; exact List.mem_cons_self)
            have ht11 : H11 tp = some (.lst (ts.map V.int)) := o _ _ J10.ht (nof1 tp List.mem_cons_self)
            have L11 := J10.lh.off o tt fun x hx => nof1 x (List.mem_cons_of_mem _ hx)
            have r11 := hr.tups tt
            have P11 := J10.pq.tups tt
            have Z11 := J10.zq.tups tt
            have h8p : xp.length < 8 := by
              have := congrArg (fun l => l[b]?) hlens
              simp only [List.getElem?_map, hxp, hxz, Option.map_some] at this
              have := Option.some.inj this
              omega
            have hb8 := (List.getElem?_eq_some_iff.mp hxp).1
            refine ⟨_, rfl, _, rfl, rfl, _, rfl, ?_⟩
            rw [show decide (V.int 0 = V.non) = false by simp]
            refine iteF ⟨_, rfl, _, _, rfl, rfl, rfl, _, rfl, ?_⟩
            refine ite2 (fun hb => absurd hb (by simp)) (fun _ => ?_)
            refine ⟨_, rfl, false, rfl, iteF ?_⟩
            refine ⟨_, rfl, _, _, rfl, rfl, (by show (0:Int) < _; decide), ?_⟩
            refine ⟨_, rfl, _, _, rfl, rfl, _, rfl, ?_⟩
            refine ite2 (fun hb => ?_) (fun hb => ?_)
            · have hb : 0 < pk % 3 := of_decide_eq_true hb
              have hch : pk % 3 = 1 ∨ pk % 3 = 2 := by omega
              -- what the cut leaves
              obtain ⟨cv, oc, hcv, hat, R, ordc, pgc⟩ : ∃ (cv : V) (oc : Option Nat), cutV' (pk % 3) r = cv ∧ atI [r, V.str "torn"] (pk % 3 - 1) = some cv ∧ (∀ H', Tups H11 H' → PgR H' cv oc) ∧ Ord (qs.set b (qb ++ [oc])) (if pk % 3 = 1 then od else od) ∧ ∀ H', Tups H11 H' → PgN H' cv := by
                rcases hch with e | e
                · refine ⟨r, some (n), by unfold cutV'; rw [if_pos e], ?_, fun H' u => .inr ⟨_, rfl, by omega, r11.tups u⟩, by rw [if_pos e]; exact ordn, fun H' u => (r11.tups u).rp.pg⟩
                  rw [show pk % 3 - 1 = ((0 : Nat) : Int) by omega]; exact atI_nat (j := 0) rfl
                · refine ⟨torn, none, by unfold cutV'; rw [if_neg (by omega)]; rfl, ?_, fun H' u => .inl ⟨rfl, rfl⟩, by rw [if_neg (by omega)]; exact ordt, fun H' u => .inl rfl⟩
                  rw [show pk % 3 - 1 = ((1 : Nat) : Int) by omega]; exact atI_nat (j := 1) rfl
              refine ⟨_, rfl, _, rfl, _, rfl, _, rfl, _, rfl, by show 2 ≤ sizeLine; decide, fun l hl => ?_⟩
              have sl := same_new (o := .lst [r, V.str "torn"]) hl
              refine ⟨_, rfl, _, _, rfl, rfl, l, _, _, cv, rfl, rfl, SqL.of upd_same, hat, ?_⟩
              refine ⟨hd, hs, pz, wl, ws, "append", b, cv, rfl, L11.same sl, by omega, .inl ⟨rfl, pgc _ (same_tups sl), xz, hxz, hx8, fun H12 L2 o2 t2 => ?_⟩⟩
              have L1l := L11.same sl
              have u12 := (same_tups sl).trans t2
              have FA12 := (FA.same' sl).off o2 t2 fun x hx hm => nof x (List.mem_cons_of_mem _ hm) hx
              obtain ⟨dxc, hfc⟩ := id FA12.ob
              have ht12 := o2 _ _ (sl _ _ ht11) J.nt
              refine ⟨_, rfl, fl, dxc, _, rfl, hfc, ff_no (by decide +kernel), _, rfl, fl, w, c, as, ws, ps, false, .int 0, .ref t', pk % 3, rfl, FA12, .inr (.inr ⟨by omega, by omega, t', b, _, r, rfl, u12 _ _ hH, hb8, .inr ⟨xp, hxp, rfl, h8p, by rw [hcv]; exact pgc _ u12, fun H13 FA13 o3 t3 => ?_⟩⟩)⟩
              rw [hcv] at FA13
              have u13 := u12.trans t3
              have L13 := L2.off o3 t3 fun x hx => nof x (List.mem_cons_of_mem _ hx)
              have ht13 := o3 _ _ ht12 (nof tp List.mem_cons_self)
              refine mk_log2 FA13 (by rw [List.length_set]; omega) (one2 _) (by rfl) fun lg2 c3 as3 H14 W14 s14 fr14 => ?_
              have P13 := P11.tups u13
              have Z13 := Z11.tups u13
              obtain ⟨q1, e1, p1⟩ := paired_at P13 hxp
              rw [hqb] at e1; cases e1
              obtain ⟨q1, e1, p2⟩ := paired_at Z13 hxz
              rw [hqb] at e1; cases e1
              have J14 := IJ.reopened (od := if pk % 3 = 1 then od else od) L13 ht13 nof J.nt (paired_set P13 (paired_snoc p1 (R _ u13))) (paired_set Z13 (paired_snoc p2 (R _ u13))) W14 s14 fr14 (by rw [List.length_set]; exact hpl) ordc (one2 _)
              refine ⟨_, rfl, rfl, _, rfl, ?_⟩
              rw [str_eqT]
              refine iteT ⟨_, rfl, true, rfl, iteF ?_⟩
              rw [show (if pk % 3 = 1 then od else od) = od by split <;> rfl] at J14
              exact iteF ⟨lg2, od, fu, .non, _, _, _, _, _, _, _, _, _, _, _, w, c, as, ws, c3, as3, _, hs, _, _, rfl, J14, by omega, .inl rfl⟩
            · have hb : ¬ 0 < pk % 3 := by simpa using hb
              obtain ⟨dxc, hfc⟩ := id FA.ob
              refine ⟨_, rfl, fl, dxc, _, rfl, hfc, ff_no (by decide +kernel), _, rfl, fl, w, c, as, ws, ps, false, .int 0, .ref t', pk % 3, rfl, FA, .inr (.inl ⟨by omega, by omega, .inr ⟨t', _, rfl, hH⟩, .inr (by omega), fun H13 FA13 o3 t3 => ?_⟩)⟩
              have L13 := L11.off o3 t3 fun x hx => nof1 x (List.mem_cons_of_mem _ hx)
              have ht13 := o3 _ _ ht11 (nof1 tp List.mem_cons_self)
              refine mk_log2 FA13 (by omega) J.one (by rfl) fun lg2 c3 as3 H14 W14 s14 fr14 => ?_
              have J14 := IJ.reopened L13 ht13 nof J.nt (P11.tups t3) (Z11.tups t3) W14 s14 fr14 hpl J.od J.one
              refine ⟨_, rfl, rfl, _, rfl, ?_⟩
              rw [str_eqT]
              refine iteT ⟨_, rfl, true, rfl, iteF ?_⟩
              exact iteF ⟨lg2, od, fu, .non, _, _, _, _, _, _, _, _, _, _, _, w, c, as, ws, c3, as3, _, hs, _, _, rfl, J14, by omega, .inl rfl⟩
          · unfold addM at W
            rw [hgd, hnx] at W
            generalize nextM ws pz = b at *
            have ht11 : H11 tp = some (.lst (ts.map V.int)) := o _ _ J10.ht (J.no tp List.mem_cons_self)
            have L11 := J10.lh.off o tt fun x hx => J.no x (List.mem_cons_of_mem _ hx)
            have r11 := hr.tups tt
            have after : ∀ H12, LH H12 hd hs (pz.set b (xz ++ [r])) wl ws → Off (hd :: wl :: hs) H11 H12 → Tups H11 H12 → IJ C CL H12 tp fl lg hd wl ts (od) (remAfter rm) w c as ws c2 as2 (ps.set b (xp ++ [r])) hs (pz.set b (xz ++ [r])) (qs.set b (qb ++ [some (n)])) := fun H12 L2 o2 t2 => by
              have t12 := tt.trans t2
              have P := J10.pq.tups t12
              have Z := J10.zq.tups t12
              have R : PgR H12 r (some (n)) := .inr ⟨_, rfl, by omega, r11.tups t2⟩
              obtain ⟨q1, e1, p1⟩ := paired_at P hxp
              rw [hqb] at e1; cases e1
              obtain ⟨q1, e1, p2⟩ := paired_at Z hxz
              rw [hqb] at e1; cases e1
              exact IJ.applied W ht11 J.no J.nt L11 L2 o2 t2 (fun x hx => .inl hx) (paired_set P (paired_snoc p1 R)) (paired_set Z (paired_snoc p2 R)) (by rw [List.length_set]; exact hpl) ordn (one2 _)
            have pgr : PgN H11 r := r11.rp.pg
            rcases hrm with rfl | ⟨l, rfl⟩
            · refine ⟨_, rfl, _, rfl, rfl, _, rfl, ?_⟩
              rw [show decide (V.non = V.non) = true by simp]
              refine iteT ⟨rfl, _, rfl, ?_⟩
              rw [show (!decide (V.bl true = V.bl true)) = false by simp]
              refine iteF ⟨_, rfl, true, rfl, iteT ?_⟩
              refine ⟨_, rfl, _, rfl, _, rfl, _, rfl, _, rfl, hd, hs, pz, wl, ws, "append", b, r, rfl, L11, by omega, .inl ⟨rfl, pgr, xz, hxz, hx8, fun H12 L2 o2 t2 => ?_⟩⟩
              have J12 := after H12 L2 o2 t2
              refine ⟨_, rfl, rfl, _, rfl, ?_⟩
              rw [show (!decide (V.non = V.non)) = false by simp]
              refine iteF ?_
              refine ⟨_, rfl, rfl, _, rfl, ?_⟩
              rw [str_eqT]
              refine iteT ⟨_, rfl, true, rfl, iteF ?_⟩
              exact iteF ⟨lg, od, fu, .non, _, _, _, _, _, _, _, _, _, _, _, w, c, as, ws, c2, as2, _, hs, _, _, rfl, J12, by omega, .inl rfl⟩
            · refine ⟨_, rfl, _, rfl, rfl, _, rfl, ?_⟩
              rw [show decide (V.int (l : Int) = V.non) = false by simp]
              have hl0 : ¬ (l : Int) = 0 := fun z => hne (by rw [z])
              refine iteF ⟨_, rfl, _, _, rfl, rfl, rfl, _, rfl, ?_⟩
              refine ite2 (fun hb => absurd hb (by simp; omega)) (fun _ => ?_)
              refine ⟨_, rfl, true, rfl, iteT ?_⟩
              refine ⟨_, rfl, _, rfl, _, rfl, _, rfl, _, rfl, hd, hs, pz, wl, ws, "append", b, r, rfl, L11, by omega, .inl ⟨rfl, pgr, xz, hxz, hx8, fun H12 L2 o2 t2 => ?_⟩⟩
              have J12 := after H12 L2 o2 t2
              refine ⟨_, rfl, rfl, _, rfl, ?_⟩
              rw [show (!decide (V.int (l : Int) = V.non)) = true by simp]
              refine iteT ⟨_, rfl, _, _, rfl, rfl, ?_⟩
              refine ⟨_, rfl, rfl, _, rfl, ?_⟩
              rw [str_eqT]
              refine iteT ⟨_, rfl, true, rfl, iteF ?_⟩
              exact iteF ⟨lg, od, fu, .int ((l : Int) - 1), _, _, _, _, _, _, _, _, _, _, _, w, c, as, ws, c2, as2, _, hs, _, _, rfl, J12, by omega, .inr ⟨l - 1, by congr 1; omega⟩⟩
        rintro σ' H11 ⟨lg, od, fu, rm, v9, v10, v11, v12, v13, v14, v15, v16, v17, v18, v19, w, c, as, ws, c2, as2, ps, hs, pz, qs, rfl, J, hod, hrm⟩
        refine ⟨_, rfl, _, rfl, lg, fl, c2, as2, ps, pz, qs, hd, hs, rfl, J.wd.lo, J.he, J.pq, J.zq, fun H12 s12 => ⟨true, rfl, iteF ?_⟩⟩
        have J12 := J.same s12
        refine ⟨_, rfl, hd, hs, pz, qs, rfl, J12.he, J12.zq, fun q hq n hn => ?_, fun l ns H13 s13 hl st mem => ?_⟩
        · have := (J.od n).mp ⟨q, hq, hn⟩
          omega
        refine ⟨_, rfl, _, rfl, by omega, by omega, fun D hD => ?_⟩
        rw [Int.toNat_natCast]
        refine lc_rngV ((List.range od).map fun k : Nat => V.int ((1 + k : Nat) : Int)) (by simp) hD (fun _ => rfl) (by omega) (fun k y H' Q' hy sm q' => ?_) fun H14 s14 hDl => ?_
        · obtain ⟨k', hk, rfl⟩ := map_get hy
          have hk : k' = k := by
            have := (List.getElem?_eq_some_iff.mp hk).2
            simpa using this.symm
          subst hk
          have e : (1 : Int) + (0 + (k' : Int)) = ((1 + k' : Nat) : Int) := by omega
          have q2 := q' H' (Same.refl H')
          rw [← e] at q2
          exact ⟨_, rfl, _, _, rfl, rfl, q2⟩
        have en := ord_list J.od st mem
        have hDl' : H14 D = some (.lst (ns.map fun k : Nat => V.int (k : Int))) := by rw [hDl, en, List.map_map]; rfl
        refine ⟨_, _, nats_at (K := K) (s14 _ _ hl), nats_at (K := K) hDl', nats_sh _, nats_sh _, _, rfl, ?_⟩
        rw [SeqAt.eqv_refl _ (SeqAt.canLay_of_shaped (nats_sh _))]
        exact iteF ⟨lg, od, fu, rm, _, _, _, _, _, _, _, _, _, _, _, w, c, as, ws, c2, as2, ps, hs, pz, qs, rfl, J12.same (s13.trans s14), hod, hrm⟩
      · refine ⟨fun σ' H' => LI C CL a tp fl hd wl ts (i + 1) σ' H', ?_, ?_⟩
        · have J10 := J.same s10
          refine ⟨_, rfl, rfl, _, rfl, ?_⟩
          rw [show (!decide (V.ref t = V.non)) = true by simp]
          refine iteT ⟨_, rfl, t, _, rfl, SqT.of ht, rfl, _, _, rfl, _, _, rfl, _, _, rfl, rfl, ?_⟩
          refine ⟨_, rfl, _, rfl, rfl, _, rfl, ?_⟩
          rw [str_eqT]
          refine iteT ?_
          have hlens : ps.map List.length = pz.map List.length := (psr_lens J.pq).trans (psr_lens J.zq).symm
          have hroom' : roomM ps false ≠ 0 := by rw [room_len hlens]; omega
          refine ⟨_, rfl, _, rfl, hd, hs, pz, wl, ws, rfl, J10.he, J10.lh.wr, J10.lh.lw, room_some (cp := false) (by omega), ?_⟩
          refine ⟨_, rfl, ?_⟩
          have hnx : nextM ws ps = nextM ws pz := next_len hlens ws
          obtain ⟨xz, hxz, hx8⟩ := nextM_ok (ws := ws) (fun xs hx => (J.lh.pg xs hx).1) (room_some (cp := false) (by omega : roomM pz false ≠ 0))
          have hbz := (List.getElem?_eq_some_iff.mp hxz).1
          have hxp : ps[nextM ws pz]? = some (ps[nextM ws pz]'(by omega)) := List.getElem?_eq_getElem _
          have hqb : qs[nextM ws pz]? = some (qs[nextM ws pz]'(by omega)) := List.getElem?_eq_getElem _
          have hgd : ps.getD (nextM ws ps) [] = ps[nextM ws pz]'(by omega) := by rw [hnx, List.getD_eq_getElem?_getD, hxp]; rfl
          have one2 := fun xs => J.one.app (ws := ws) (xs := xs)
          rw [hnx] at one2
          have ordn := J.od.new hqb
          have ordt := J.od.torn hqb
          generalize ps[nextM ws pz]'(by omega) = xp at hxp hgd
          generalize qs[nextM ws pz]'(by omega) = qb at hqb ordn ordt
          refine ⟨_, rfl, _, rfl, _, rfl, _, rfl, fl, w, c, as, ws, lg, c2, as2, ps, rm, "append", r, false, rfl, J10.wd, hrm', .inl ⟨rfl, hr.rp, hroom', fun hz t' H11 ht' hH FA o tt => ?_, fun hne H11 W o tt => ?_⟩⟩
          · subst hz
            rw [hgd, hnx] at hH
            generalize nextM ws pz = b at *
            have nof : ∀ x ∈ tp :: hd :: wl :: hs, x ∉ fl :: w :: c :: as := fun x hx h => J.no x hx (flash_sub h)
            have nof1 : ∀ x ∈ tp :: hd :: wl :: hs, x ∉ [fl] := fun x hx h => nof x hx (by rw [List.mem_singleton.mp h]; exact List.mem_cons_self)
            have ht11 : H11 tp = some (.lst (ts.map V.int)) := o _ _ J10.ht (nof1 tp List.mem_cons_self)
            have L11 := J10.lh.off o tt fun x hx => nof1 x (List.mem_cons_of_mem _ hx)
            have r11 := hr.tups tt
            have P11 := J10.pq.tups tt
            have Z11 := J10.zq.tups tt
            have h8p : xp.length < 8 := by
              have := congrArg (fun l => l[b]?) hlens
              simp only [List.getElem?_map, hxp, hxz, Option.map_some] at this
              have := Option.some.inj this
              omega
            have hb8 := (List.getElem?_eq_some_iff.mp hxp).1
            refine ⟨_, rfl, _, rfl, rfl, _, rfl, ?_⟩
            rw [show decide (V.int 0 = V.non) = false by simp]
            refine iteF ⟨_, rfl, _, _, rfl, rfl, rfl, _, rfl, ?_⟩
            refine ite2 (fun hb => absurd hb (by simp)) (fun _ => ?_)
            refine ⟨_, rfl, false, rfl, iteF ?_⟩
            refine ⟨_, rfl, _, _, rfl, rfl, (by show (0:Int) < _; decide), ?_⟩
            refine ⟨_, rfl, _, _, rfl, rfl, _, rfl, ?_⟩
            refine ite2 (fun hb => ?_) (fun hb => ?_)
            · have hb : 0 < pk % 3 := of_decide_eq_true hb
              have hch : pk % 3 = 1 ∨ pk % 3 = 2 := by omega
              -- what the cut leaves
              obtain ⟨cv, oc, hcv, hat, R, ordc, pgc⟩ : ∃ (cv : V) (oc : Option Nat), cutV' (pk % 3) r = cv ∧ atI [r, V.str "torn"] (pk % 3 - 1) = some cv ∧ (∀ H', Tups H11 H' → PgR H' cv oc) ∧ Ord (qs.set b (qb ++ [oc])) (if pk % 3 = 1 then od + 1 else od) ∧ ∀ H', Tups H11 H' → PgN H' cv := by
                rcases hch with e | e
                · refine ⟨r, some (od + 1), by unfold cutV'; rw [if_pos e], ?_, fun H' u => .inr ⟨_, rfl, by omega, r11.tups u⟩, by rw [if_pos e]; exact ordn, fun H' u => (r11.tups u).rp.pg⟩
                  rw [show pk % 3 - 1 = ((0 : Nat) : Int) by omega]; exact atI_nat (j := 0) rfl
                · refine ⟨torn, none, by unfold cutV'; rw [if_neg (by omega)]; rfl, ?_, fun H' u => .inl ⟨rfl, rfl⟩, by rw [if_neg (by omega)]; exact ordt, fun H' u => .inl rfl⟩
                  rw [show pk % 3 - 1 = ((1 : Nat) : Int) by omega]; exact atI_nat (j := 1) rfl
              refine ⟨_, rfl, _, rfl, _, rfl, _, rfl, _, rfl, by show 2 ≤ sizeLine; decide, fun l hl => ?_⟩
              have sl := same_new (o := .lst [r, V.str "torn"]) hl
              refine ⟨_, rfl, _, _, rfl, rfl, l, _, _, cv, rfl, rfl, SqL.of upd_same, hat, ?_⟩
              refine ⟨hd, hs, pz, wl, ws, "append", b, cv, rfl, L11.same sl, by omega, .inl ⟨rfl, pgc _ (same_tups sl), xz, hxz, hx8, fun H12 L2 o2 t2 => ?_⟩⟩
              have L1l := L11.same sl
              have u12 := (same_tups sl).trans t2
              have FA12 := (FA.same' sl).off o2 t2 fun x hx hm => nof x (List.mem_cons_of_mem _ hm) hx
              obtain ⟨dxc, hfc⟩ := id FA12.ob
              have ht12 := o2 _ _ (sl _ _ ht11) J.nt
              refine ⟨_, rfl, fl, dxc, _, rfl, hfc, ff_no (by decide +kernel), _, rfl, fl, w, c, as, ws, ps, false, .int 0, .ref t', pk % 3, rfl, FA12, .inr (.inr ⟨by omega, by omega, t', b, _, r, rfl, u12 _ _ hH, hb8, .inr ⟨xp, hxp, rfl, h8p, by rw [hcv]; exact pgc _ u12, fun H13 FA13 o3 t3 => ?_⟩⟩)⟩
              rw [hcv] at FA13
              have u13 := u12.trans t3
              have L13 := L2.off o3 t3 fun x hx => nof x (List.mem_cons_of_mem _ hx)
              have ht13 := o3 _ _ ht12 (nof tp List.mem_cons_self)
              refine mk_log2 FA13 (by rw [List.length_set]; omega) (one2 _) (by rfl) fun lg2 c3 as3 H14 W14 s14 fr14 => ?_
              have P13 := P11.tups u13
              have Z13 := Z11.tups u13
              obtain ⟨q1, e1, p1⟩ := paired_at P13 hxp
              rw [hqb] at e1; cases e1
              obtain ⟨q1, e1, p2⟩ := paired_at Z13 hxz
              rw [hqb] at e1; cases e1
              have J14 := IJ.reopened (od := if pk % 3 = 1 then od + 1 else od) L13 ht13 nof J.nt (paired_set P13 (paired_snoc p1 (R _ u13))) (paired_set Z13 (paired_snoc p2 (R _ u13))) W14 s14 fr14 (by rw [List.length_set]; exact hpl) ordc (one2 _)
              refine ⟨_, rfl, rfl, _, rfl, ?_⟩
              rw [str_eqT]
              refine iteT ⟨_, rfl, false, rfl, iteT ?_⟩
              refine ⟨_, rfl, false, rfl, iteF ?_⟩
              refine ⟨_, rfl, _, _, rfl, rfl, (by show (0:Int) < _; decide), rfl, _, rfl, ?_⟩
              refine ite2 (fun e => ?_) (fun e => ?_)
              · have e : pk % 3 = 1 := by simpa using e
                rw [if_pos e] at J14
                refine ⟨_, rfl, _, _, rfl, rfl, ?_⟩
                exact ⟨lg2, od + 1, fu, .non, _, _, _, _, _, _, _, _, _, _, _, w, c, as, ws, c3, as3, _, hs, _, _, rfl, J14, by omega, .inl rfl⟩
              · have e : ¬ pk % 3 = 1 := by simpa using e
                rw [if_neg e] at J14
                exact ⟨lg2, od, fu, .non, _, _, _, _, _, _, _, _, _, _, _, w, c, as, ws, c3, as3, _, hs, _, _, rfl, J14, by omega, .inl rfl⟩
            · have hb : ¬ 0 < pk % 3 := by simpa using hb
              obtain ⟨dxc, hfc⟩ := id FA.ob
              refine ⟨_, rfl, fl, dxc, _, rfl, hfc, ff_no (by decide +kernel), _, rfl, fl, w, c, as, ws, ps, false, .int 0, .ref t', pk % 3, rfl, FA, .inr (.inl ⟨by omega, by omega, .inr ⟨t', _, rfl, hH⟩, .inr (by omega), fun H13 FA13 o3 t3 => ?_⟩)⟩
              have L13 := L11.off o3 t3 fun x hx => nof1 x (List.mem_cons_of_mem _ hx)
              have ht13 := o3 _ _ ht11 (nof1 tp List.mem_cons_self)
              refine mk_log2 FA13 (by omega) J.one (by rfl) fun lg2 c3 as3 H14 W14 s14 fr14 => ?_
              have J14 := IJ.reopened L13 ht13 nof J.nt (P11.tups t3) (Z11.tups t3) W14 s14 fr14 hpl J.od J.one
              refine ⟨_, rfl, rfl, _, rfl, ?_⟩
              rw [str_eqT]
              refine iteT ⟨_, rfl, false, rfl, iteT ?_⟩
              refine ⟨_, rfl, false, rfl, iteF ?_⟩
              refine ⟨_, rfl, _, _, rfl, rfl, (by show (0:Int) < _; decide), rfl, _, rfl, ?_⟩
              refine ite2 (fun e => absurd e (by simp; omega)) (fun _ => ?_)
              exact ⟨lg2, od, fu, .non, _, _, _, _, _, _, _, _, _, _, _, w, c, as, ws, c3, as3, _, hs, _, _, rfl, J14, by omega, .inl rfl⟩
          · unfold addM at W
            rw [hgd, hnx] at W
            generalize nextM ws pz = b at *
            have ht11 : H11 tp = some (.lst (ts.map V.int)) := o _ _ J10.ht (J.no tp List.mem_cons_self)
            have L11 := J10.lh.off o tt fun x hx => J.no x (List.mem_cons_of_mem _ hx)
            have r11 := hr.tups tt
            have after : ∀ H12, LH H12 hd hs (pz.set b (xz ++ [r])) wl ws → Off (hd :: wl :: hs) H11 H12 → Tups H11 H12 → IJ C CL H12 tp fl lg hd wl ts (od + 1) (remAfter rm) w c as ws c2 as2 (ps.set b (xp ++ [r])) hs (pz.set b (xz ++ [r])) (qs.set b (qb ++ [some (od + 1)])) := fun H12 L2 o2 t2 => by
              have t12 := tt.trans t2
              have P := J10.pq.tups t12
              have Z := J10.zq.tups t12
              have R : PgR H12 r (some (od + 1)) := .inr ⟨_, rfl, by omega, r11.tups t2⟩
              obtain ⟨q1, e1, p1⟩ := paired_at P hxp
              rw [hqb] at e1; cases e1
              obtain ⟨q1, e1, p2⟩ := paired_at Z hxz
              rw [hqb] at e1; cases e1
              exact IJ.applied W ht11 J.no J.nt L11 L2 o2 t2 (fun x hx => .inl hx) (paired_set P (paired_snoc p1 R)) (paired_set Z (paired_snoc p2 R)) (by rw [List.length_set]; exact hpl) ordn (one2 _)
            have pgr : PgN H11 r := r11.rp.pg
            rcases hrm with rfl | ⟨l, rfl⟩
            · refine ⟨_, rfl, _, rfl, rfl, _, rfl, ?_⟩
              rw [show decide (V.non = V.non) = true by simp]
              refine iteT ⟨rfl, _, rfl, ?_⟩
              rw [show (!decide (V.bl true = V.bl true)) = false by simp]
              refine iteF ⟨_, rfl, true, rfl, iteT ?_⟩
              refine ⟨_, rfl, _, rfl, _, rfl, _, rfl, _, rfl, hd, hs, pz, wl, ws, "append", b, r, rfl, L11, by omega, .inl ⟨rfl, pgr, xz, hxz, hx8, fun H12 L2 o2 t2 => ?_⟩⟩
              have J12 := after H12 L2 o2 t2
              refine ⟨_, rfl, rfl, _, rfl, ?_⟩
              rw [show (!decide (V.non = V.non)) = false by simp]
              refine iteF ?_
              refine ⟨_, rfl, rfl, _, rfl, ?_⟩
              rw [str_eqT]
              refine iteT ⟨_, rfl, false, rfl, iteT ?_⟩
              refine ⟨_, rfl, true, rfl, iteT ?_⟩
              refine iteT ⟨_, rfl, _, _, rfl, rfl, ?_⟩
              exact ⟨lg, od + 1, fu, .non, _, _, _, _, _, _, _, _, _, _, _, w, c, as, ws, c2, as2, _, hs, _, _, rfl, J12, by omega, .inl rfl⟩
            · refine ⟨_, rfl, _, rfl, rfl, _, rfl, ?_⟩
              rw [show decide (V.int (l : Int) = V.non) = false by simp]
              have hl0 : ¬ (l : Int) = 0 := fun z => hne (by rw [z])
              refine iteF ⟨_, rfl, _, _, rfl, rfl, rfl, _, rfl, ?_⟩
              refine ite2 (fun hb => absurd hb (by simp; omega)) (fun _ => ?_)
              refine ⟨_, rfl, true, rfl, iteT ?_⟩
              refine ⟨_, rfl, _, rfl, _, rfl, _, rfl, _, rfl, hd, hs, pz, wl, ws, "append", b, r, rfl, L11, by omega, .inl ⟨rfl, pgr, xz, hxz, hx8, fun H12 L2 o2 t2 => ?_⟩⟩
              have J12 := after H12 L2 o2 t2
              refine ⟨_, rfl, rfl, _, rfl, ?_⟩
              rw [show (!decide (V.int (l : Int) = V.non)) = true by simp]
              refine iteT ⟨_, rfl, _, _, rfl, rfl, ?_⟩
              refine ⟨_, rfl, rfl, _, rfl, ?_⟩
              rw [str_eqT]
              refine iteT ⟨_, rfl, false, rfl, iteT ?_⟩
              refine ⟨_, rfl, true, rfl, iteT ?_⟩
              refine iteT ⟨_, rfl, _, _, rfl, rfl, ?_⟩
              exact ⟨lg, od + 1, fu, .int ((l : Int) - 1), _, _, _, _, _, _, _, _, _, _, _, w, c, as, ws, c2, as2, _, hs, _, _, rfl, J12, by omega, .inr ⟨l - 1, by congr 1; omega⟩⟩
        rintro σ' H11 ⟨lg, od, fu, rm, v9, v10, v11, v12, v13, v14, v15, v16, v17, v18, v19, w, c, as, ws, c2, as2, ps, hs, pz, qs, rfl, J, hod, hrm⟩
        refine ⟨_, rfl, _, rfl, lg, fl, c2, as2, ps, pz, qs, hd, hs, rfl, J.wd.lo, J.he, J.pq, J.zq, fun H12 s12 => ⟨true, rfl, iteF ?_⟩⟩
        have J12 := J.same s12
        refine ⟨_, rfl, hd, hs, pz, qs, rfl, J12.he, J12.zq, fun q hq n hn => ?_, fun l ns H13 s13 hl st mem => ?_⟩
        · have := (J.od n).mp ⟨q, hq, hn⟩
          omega
        refine ⟨_, rfl, _, rfl, by omega, by omega, fun D hD => ?_⟩
        rw [Int.toNat_natCast]
        refine lc_rngV ((List.range od).map fun k : Nat => V.int ((1 + k : Nat) : Int)) (by simp) hD (fun _ => rfl) (by omega) (fun k y H' Q' hy sm q' => ?_) fun H14 s14 hDl => ?_
        · obtain ⟨k', hk, rfl⟩ := map_get hy
          have hk : k' = k := by
            have := (List.getElem?_eq_some_iff.mp hk).2
            simpa using this.symm
          subst hk
          have e : (1 : Int) + (0 + (k' : Int)) = ((1 + k' : Nat) : Int) := by omega
          have q2 := q' H' (Same.refl H')
          rw [← e] at q2
          exact ⟨_, rfl, _, _, rfl, rfl, q2⟩
        have en := ord_list J.od st mem
        have hDl' : H14 D = some (.lst (ns.map fun k : Nat => V.int (k : Int))) := by rw [hDl, en, List.map_map]; rfl
        refine ⟨_, _, nats_at (K := K) (s14 _ _ hl), nats_at (K := K) hDl', nats_sh _, nats_sh _, _, rfl, ?_⟩
        rw [SeqAt.eqv_refl _ (SeqAt.canLay_of_shaped (nats_sh _))]
        exact iteF ⟨lg, od, fu, rm, _, _, _, _, _, _, _, _, _, _, _, w, c, as, ws, c2, as2, ps, hs, pz, qs, rfl, J12.same (s13.trans s14), hod, hrm⟩
    · rintro σ' H8 ⟨lg, od, fu, rm, v9, v10, v11, v12, v13, v14, v15, v16, v17, v18, v19, w, c, as, ws, c2, as2, ps, hs, pz, qs, rfl, J, hod, hrm⟩
      have hrm' : rm = .non ∨ ∃ r : Int, rm = .int r := hrm.elim .inl fun ⟨l, e⟩ => .inr ⟨_, e⟩
      have W := J.wd
      obtain ⟨dxf, hfo⟩ := id W.fa.ob
      refine ⟨_, rfl, _, rfl, lg, fl, c2, as2, ps, pz, qs, hd, hs, rfl, W.lo, J.he, J.pq, J.zq, fun H9 s9 => ⟨true, rfl, iteT ?_⟩⟩
      have J9 := J.same s9
      refine ⟨_, rfl, fl, dxf, _, rfl, s9 _ _ hfo, ff_no (by decide +kernel), nil_ ⟨fl, w, c, as, ws, ps, true, rm, .non, rfl, J9.wd.fa, by have := J.len; omega, fun r H10 s10 im => ?_⟩⟩
      obtain ⟨tr, hr1', hr2', hr3'⟩ := im.at_
      obtain ⟨cr, hc1, hc2, hc3⟩ := img_cells hr2' fun i t ht => by
        obtain ⟨wv, c', vs, _, a2, a3, a4⟩ := hr3' i t ht
        exact ⟨wv, c', vs, a2, a3, a4⟩
      have hpl := J.len
      refine ⟨r, rfl, ⟨_, SqL.of hr1'⟩, fun D' hD' => ?_⟩
      refine lc_mapS (cr.map V.ref) (by rw [List.length_map, List.length_map, hc1]) hD' (SqL.of hr1') (fun _ => rfl) (by rw [List.length_map]; omega) (fun i x y H' Q' hx hy sm q' => ?_) fun H11 s11 hDl => ?_
      · obtain ⟨t, ht, rfl⟩ := map_get hx
        obtain ⟨c', hc', rfl⟩ := map_get hy
        obtain ⟨wv, e⟩ := hc2 i t c' ht hc'
        exact ⟨_, rfl, t, _, _, _, rfl, rfl, SqT.of (sm _ _ e), atI_nat (j := 1) rfl, q' H' (Same.refl _)⟩
      · have J11 := J9.same (s10.trans s11)
        have D1 : DpAll K H11 (cr.map V.ref) (qs.map fun q => .list (rowD q)) := ps_dps J11.pq (by omega) fun i c' vs h1 h2 => s11 _ _ (hc3 i c' vs h1 h2)
        have D2 : DpAll K H11 (hs.map V.ref) (qs.map fun q => .list (rowD q)) := ps_dps J11.zq J11.lh.gr.len J11.lh.gr.rows
        refine ⟨_, rfl, .list (qs.map fun q => .list (rowD q)), .list (qs.map fun q => .list (rowD q)), .lst (SqL.of hDl) D1, .lst (SqL.of J11.lh.gr.ls) D2, qs_sh _, qs_sh _, ?_⟩
        rw [SeqAt.eqv_refl _ (SeqAt.canLay_of_shaped (qs_sh _))]
        exact q H11
end
end Sg

set_option Elab.async false
set_option linter.all false
set_option maxRecDepth 100000
set_option maxHeartbeats 8000000
namespace Sg
open PySem PySem.Spec PyProof.Rows L2
open Sr
theorem all_mk {l : PySem.W.OpenLaw} {w : World} {K : PySem.W.Frag} {h : Heap} {mg : Str → Option Value} {fa CN CS C CL CP CB CR aK aF aT0 aT1 aT2 aT3 aT4 aT5 aT6 aT7 aT8 aT9 aT10 aT11 fI fRd fPr fEr fWe fFl fCu fIg fKb fKp fPo fOp fCa fMI fMA fMO fME fMS fMF fMC fMP fMR fMT fMH fMB fMN fW fAL fB fIr fFc fIk fIc fIf fIt fFe fOn fRb fT fA fUs fLr fLs fLo fTa fFo fSa fRx fDo fAy fSp fEl fCh fOr fL : Addr} (X : K.In h) (G : h.Ns mainGlobals mg) (hfa : mg "law" = some (.ref fa))
    {dT0 dT1 dT2 dT3 dT4 dT5 dT6 dT7 dT8 dT9 dT10 dT11 odI anI odRd anRd odPr anPr odEr anEr odWe anWe odFl anFl odCu anCu odIg anIg odKb anKb odKp anKp odPo anPo odOp anOp odCa anCa odMI anMI odMA anMA odMO anMO odME anME odMS anMS odMF anMF odMC anMC odMP anMP odMR anMR odMT anMT odMH anMH odMB anMB odMN anMN odW anW odAL anAL odB anB odIr anIr odFc anFc odIk anIk odIc anIc odIf anIf odIt anIt odFe anFe odOn anOn odRb anRb odT anT odA anA odUs anUs odLr anLr odLs anLs odLo anLo odTa anTa odFo anFo odSa anSa odRx anRx odDo anDo odAy anAy odSp anSp odEl anEl odCh anCh odOr anOr odL anL : Option Addr} {slK slT0 slT1 slT2 slT3 slT4 slT5 slT6 slT7 slT8 slT9 slT10 slT11 slI slRd slPr slEr slWe slFl slCu slIg slKb slKp slPo slOp slCa slMI slMA slMO slME slMS slMF slMC slMP slMR slMT slMH slMB slMN slW slAL slB slIr slFc slIk slIc slIf slIt slFe slOn slRb slT slA slUs slLr slLs slLo slTa slFo slSa slRx slDo slAy slSp slEl slCh slOr slL : Array (Option Value)} {ocI kVI dcI pmI cdI ctI ocRd kVRd dcRd pmRd cdRd ctRd ocPr kVPr dcPr pmPr cdPr ctPr ocEr kVEr dcEr pmEr cdEr ctEr ocWe kVWe dcWe pmWe cdWe ctWe ocFl kVFl dcFl pmFl cdFl ctFl ocCu kVCu dcCu pmCu cdCu ctCu ocIg kVIg dcIg pmIg cdIg ctIg ocKb kVKb dcKb pmKb cdKb ctKb ocKp kVKp dcKp pmKp cdKp ctKp ocPo kVPo dcPo pmPo cdPo ctPo ocOp kVOp dcOp pmOp cdOp ctOp ocCa kVCa dcCa pmCa cdCa ctCa ocMI kVMI dcMI pmMI cdMI ctMI ocMA kVMA dcMA pmMA cdMA ctMA ocMO kVMO dcMO pmMO cdMO ctMO ocME kVME dcME pmME cdME ctME ocMS kVMS dcMS pmMS cdMS ctMS ocMF kVMF dcMF pmMF cdMF ctMF ocMC kVMC dcMC pmMC cdMC ctMC ocMP kVMP dcMP pmMP cdMP ctMP ocMR kVMR dcMR pmMR cdMR ctMR ocMT kVMT dcMT pmMT cdMT ctMT ocMH kVMH dcMH pmMH cdMH ctMH ocMB kVMB dcMB pmMB cdMB ctMB ocMN kVMN dcMN pmMN cdMN ctMN ocW kVW dcW pmW cdW ctW ocAL kVAL dcAL pmAL cdAL ctAL ocB kVB dcB pmB cdB ctB ocIr kVIr dcIr pmIr cdIr ctIr ocFc kVFc dcFc pmFc cdFc ctFc ocIk kVIk dcIk pmIk cdIk ctIk ocIc kVIc dcIc pmIc cdIc ctIc ocIf kVIf dcIf pmIf cdIf ctIf ocIt kVIt dcIt pmIt cdIt ctIt ocFe kVFe dcFe pmFe cdFe ctFe ocOn kVOn dcOn pmOn cdOn ctOn ocRb kVRb dcRb pmRb cdRb ctRb ocT kVT dcT pmT cdT ctT ocA kVA dcA pmA cdA ctA ocUs kVUs dcUs pmUs cdUs ctUs ocLr kVLr dcLr pmLr cdLr ctLr ocLs kVLs dcLs pmLs cdLs ctLs ocLo kVLo dcLo pmLo cdLo ctLo ocTa kVTa dcTa pmTa cdTa ctTa ocFo kVFo dcFo pmFo cdFo ctFo ocSa kVSa dcSa pmSa cdSa ctSa ocRx kVRx dcRx pmRx cdRx ctRx ocDo kVDo dcDo pmDo cdDo ctDo ocAy kVAy dcAy pmAy cdAy ctAy ocSp kVSp dcSp pmSp cdSp ctSp ocEl kVEl dcEl pmEl cdEl ctEl ocCh kVCh dcCh pmCh cdCh ctCh ocOr kVOr dcOr pmOr cdOr ctOr ocL kVL dcL pmL cdL ctL : Value} {tTORN tPAGES tMIN_BLOCKS tMAX_BLOCKS tMOST_OPERATIONS tHEAD tHOSTS tNAMESPACES tPLACES uK0 uK1 uK2 uK3 uK4 uK5 uK6 uK7 uK8 uK9 uK10 uK11 w0_0 w1_0 w1_1 w2_0 w3_0 w3_1 w3_2 w4_0 w4_1 w5_0 w6_0 w6_1 w7_0 w8_0 w8_1 w9_0 w9_1 w10_0 w11_0 w11_1 w11_2 : Tok} {nK nF nnT0 nnT1 nnT2 nnT3 nnT4 nnT5 nnT6 nnT7 nnT8 nnT9 nnT10 nnT11 : Nat} {esF : Array DictEntry}
    (aN_ : PySem.W.nsIn K mainGlobals "NotValid" = some (some (.ref CN)))
    (aS_ : PySem.W.nsIn K mainGlobals "SpindleError" = some (some (.ref CS)))
    (xNe : PySem.W.excIn K CN [.type "ValueError", .type "Exception", .type "BaseException", .type "object"] "ValueError.__new__" = true)
    (kNe : PySem.W.keepIn K (.ref CN) = true)
    (bNe : PySem.W.subIn K (.ref CN) (.type "BaseException") = some true)
    (tNe : PySem.W.typeIn K (.ref CN) = some (.type "type"))
    (sNe : PySem.W.subIn K (.ref CN) (.ref CS) = some true)
    (iSe : PySem.W.isClsIn K CS = true)
    (bSe : PySem.W.subIn K (.ref CS) (.type "BaseException") = some true)
    (tSe : PySem.W.typeIn K (.ref CS) = some (.type "type"))
    (aC : PySem.W.nsIn K mainGlobals "Flash" = some (some (.ref C)))
    (aCL : PySem.W.nsIn K mainGlobals "Log" = some (some (.ref CL)))
    (aP_ : PySem.W.nsIn K mainGlobals "PowerOff" = some (some (.ref CP)))
    (xPe : PySem.W.excIn K CP [.type "ValueError", .type "Exception", .type "BaseException", .type "object"] "ValueError.__new__" = true)
    (kPe : PySem.W.keepIn K (.ref CP) = true)
    (bPe : PySem.W.subIn K (.ref CP) (.type "BaseException") = some true)
    (tPe : PySem.W.typeIn K (.ref CP) = some (.type "type"))
    (sPe : PySem.W.subIn K (.ref CP) (.ref CS) = some true)
    (aB_ : PySem.W.nsIn K mainGlobals "BadFlash" = some (some (.ref CB)))
    (xBe : PySem.W.excIn K CB [.type "ValueError", .type "Exception", .type "BaseException", .type "object"] "ValueError.__new__" = true)
    (kBe : PySem.W.keepIn K (.ref CB) = true)
    (bBe : PySem.W.subIn K (.ref CB) (.type "BaseException") = some true)
    (tBe : PySem.W.typeIn K (.ref CB) = some (.type "type"))
    (sBe : PySem.W.subIn K (.ref CB) (.ref CS) = some true)
    (aR_ : PySem.W.nsIn K mainGlobals "NoRoom" = some (some (.ref CR)))
    (xRe : PySem.W.excIn K CR [.type "ValueError", .type "Exception", .type "BaseException", .type "object"] "ValueError.__new__" = true)
    (kRe : PySem.W.keepIn K (.ref CR) = true)
    (bRe : PySem.W.subIn K (.ref CR) (.type "BaseException") = some true)
    (tRe : PySem.W.typeIn K (.ref CR) = some (.type "type"))
    (sRe : PySem.W.subIn K (.ref CR) (.ref CS) = some true)
    (iPe : PySem.W.isClsIn K CP = true)
    (sPPe : PySem.W.subIn K (.ref CP) (.ref CP) = some true)
    (pgF : PySem.W.plainGet K C Str.empty = true)
    (hdF : PySem.W.hasDictIn K C = true)
    (poF : PySem.W.plainOver K C = true)
    (saF : PySem.W.findIn K (.ref C) "__setattr__" = some (some (.builtin "object.__setattr__")))
    (mkF : PySem.W.makesIn K C = true)
    (kcF : PySem.W.keepIn K (.ref C) = true)
    (pgL : PySem.W.plainGet K CL Str.empty = true)
    (hdL : PySem.W.hasDictIn K CL = true)
    (poL : PySem.W.plainOver K CL = true)
    (saL : PySem.W.findIn K (.ref CL) "__setattr__" = some (some (.builtin "object.__setattr__")))
    (mkL : PySem.W.makesIn K CL = true)
    (kcL : PySem.W.keepIn K (.ref CL) = true)
    (n1 : PySem.W.findIn K (.ref C) "blocks" = some none)
    (n2 : PySem.W.findIn K (.ref C) "_wears" = some none)
    (n3 : PySem.W.findIn K (.ref C) "_contents" = some none)
    (n4 : PySem.W.findIn K (.ref C) "_powered" = some none)
    (n5 : PySem.W.findIn K (.ref C) "_remaining" = some none)
    (n6 : PySem.W.findIn K (.ref C) "_interrupted" = some none)
    (m1 : PySem.W.findIn K (.ref CL) "flash" = some none)
    (m2 : PySem.W.findIn K (.ref CL) "_contents" = some none)
    (gTORN : PySem.W.nsIn K mainGlobals "TORN" = some (some (.str "torn" tTORN)))
    (gPAGES : PySem.W.nsIn K mainGlobals "PAGES" = some (some (.int 8 tPAGES)))
    (gMIN_BLOCKS : PySem.W.nsIn K mainGlobals "MIN_BLOCKS" = some (some (.int 8 tMIN_BLOCKS)))
    (gMAX_BLOCKS : PySem.W.nsIn K mainGlobals "MAX_BLOCKS" = some (some (.int 24 tMAX_BLOCKS)))
    (gMOST_OPERATIONS : PySem.W.nsIn K mainGlobals "MOST_OPERATIONS" = some (some (.int 100000 tMOST_OPERATIONS)))
    (gHEAD : PySem.W.nsIn K mainGlobals "HEAD" = some (some (.int 5 tHEAD)))
    (gHOSTS : PySem.W.nsIn K mainGlobals "HOSTS" = some (some (.int 4 tHOSTS)))
    (gNAMESPACES : PySem.W.nsIn K mainGlobals "NAMESPACES" = some (some (.int 8 tNAMESPACES)))
    (gPLACES : PySem.W.nsIn K mainGlobals "PLACES" = some (some (.int 64 tPLACES)))
    (gKINDS : PySem.W.nsIn K mainGlobals "KINDS" = some (some (.ref aK)))
    (gFIELDS : PySem.W.nsIn K mainGlobals "FIELDS" = some (some (.ref aF)))
    (lKINDS : K.lookup aK = some ⟨.type "tuple", none, .seq #[.str "mark" uK0, .str "make" uK1, .str "remove" uK2, .str "write" uK3, .str "trim" uK4, .str "snap" uK5, .str "drop" uK6, .str "register" uK7, .str "leave" uK8, .str "reserve" uK9, .str "release" uK10, .str "preempt" uK11] nK, slK⟩)
    (lFIELDS : K.lookup aF = some ⟨.type "dict", none, .dict esF nF, #[]⟩)
    (kFIELDS : PySem.W.KeysLit w.params esF.toList)
    (nT0 : PySem.W.nsIn K aF "mark" = some (some (.ref aT0)))
    (lT0 : K.lookup aT0 = some ⟨.type "tuple", dT0, .seq #[.str "told" w0_0] nnT0, slT0⟩)
    (nT1 : PySem.W.nsIn K aF "make" = some (some (.ref aT1)))
    (lT1 : K.lookup aT1 = some ⟨.type "tuple", dT1, .seq #[.str "namespace" w1_0, .str "size" w1_1] nnT1, slT1⟩)
    (nT2 : PySem.W.nsIn K aF "remove" = some (some (.ref aT2)))
    (lT2 : K.lookup aT2 = some ⟨.type "tuple", dT2, .seq #[.str "namespace" w2_0] nnT2, slT2⟩)
    (nT3 : PySem.W.nsIn K aF "write" = some (some (.ref aT3)))
    (lT3 : K.lookup aT3 = some ⟨.type "tuple", dT3, .seq #[.str "namespace" w3_0, .str "place" w3_1, .str "value" w3_2] nnT3, slT3⟩)
    (nT4 : PySem.W.nsIn K aF "trim" = some (some (.ref aT4)))
    (lT4 : K.lookup aT4 = some ⟨.type "tuple", dT4, .seq #[.str "namespace" w4_0, .str "place" w4_1] nnT4, slT4⟩)
    (nT5 : PySem.W.nsIn K aF "snap" = some (some (.ref aT5)))
    (lT5 : K.lookup aT5 = some ⟨.type "tuple", dT5, .seq #[.str "namespace" w5_0] nnT5, slT5⟩)
    (nT6 : PySem.W.nsIn K aF "drop" = some (some (.ref aT6)))
    (lT6 : K.lookup aT6 = some ⟨.type "tuple", dT6, .seq #[.str "namespace" w6_0, .str "snapshot" w6_1] nnT6, slT6⟩)
    (nT7 : PySem.W.nsIn K aF "register" = some (some (.ref aT7)))
    (lT7 : K.lookup aT7 = some ⟨.type "tuple", dT7, .seq #[.str "namespace" w7_0] nnT7, slT7⟩)
    (nT8 : PySem.W.nsIn K aF "leave" = some (some (.ref aT8)))
    (lT8 : K.lookup aT8 = some ⟨.type "tuple", dT8, .seq #[.str "namespace" w8_0, .str "held" w8_1] nnT8, slT8⟩)
    (nT9 : PySem.W.nsIn K aF "reserve" = some (some (.ref aT9)))
    (lT9 : K.lookup aT9 = some ⟨.type "tuple", dT9, .seq #[.str "namespace" w9_0, .str "way" w9_1] nnT9, slT9⟩)
    (nT10 : PySem.W.nsIn K aF "release" = some (some (.ref aT10)))
    (lT10 : K.lookup aT10 = some ⟨.type "tuple", dT10, .seq #[.str "namespace" w10_0] nnT10, slT10⟩)
    (nT11 : PySem.W.nsIn K aF "preempt" = some (some (.ref aT11)))
    (lT11 : K.lookup aT11 = some ⟨.type "tuple", dT11, .seq #[.str "namespace" w11_0, .str "victim" w11_1, .str "way or none" w11_2] nnT11, slT11⟩)
    (z_isinstance : PySem.W.nsIn K mainGlobals "isinstance" = some none)
    (z_int : PySem.W.nsIn K mainGlobals "int" = some none)
    (z_bool : PySem.W.nsIn K mainGlobals "bool" = some none)
    (z_str : PySem.W.nsIn K mainGlobals "str" = some none)
    (z_tuple : PySem.W.nsIn K mainGlobals "tuple" = some none)
    (z_list : PySem.W.nsIn K mainGlobals "list" = some none)
    (z_len : PySem.W.nsIn K mainGlobals "len" = some none)
    (z_all : PySem.W.nsIn K mainGlobals "all" = some none)
    (z_zip : PySem.W.nsIn K mainGlobals "zip" = some none)
    (z_range : PySem.W.nsIn K mainGlobals "range" = some none)
    (z_abs : PySem.W.nsIn K mainGlobals "abs" = some none)
    (z_sum : PySem.W.nsIn K mainGlobals "sum" = some none)
    (z_min : PySem.W.nsIn K mainGlobals "min" = some none)
    (z_sorted : PySem.W.nsIn K mainGlobals "sorted" = some none)
    (z_max : PySem.W.nsIn K mainGlobals "max" = some none)
    (aI : PySem.W.findIn K (.ref C) "__init__" = some (some (.ref fI)))
    (iI : PySem.W.isFn K (.ref fI) = true)
    (lI : K.lookup fI = some ⟨ocI, odI, .func (PySem.W.fnOf "__init__" "Flash.__init__" (defArgs (Sg.cF 0)) (defBody (Sg.cF 0)) (defScope (Sg.cF 0)) .none kVI dcI pmI anI cdI ctI), slI⟩)
    (cI : PySem.W.codeIn K cdI "Flash.__init__" = true)
    (kI : PySem.W.keepIn K (.ref fI) = true)
    (aRd : PySem.W.findIn K (.ref C) "read" = some (some (.ref fRd)))
    (iRd : PySem.W.isFn K (.ref fRd) = true)
    (lRd : K.lookup fRd = some ⟨ocRd, odRd, .func (PySem.W.fnOf "read" "Flash.read" (defArgs (Sg.cF 1)) (defBody (Sg.cF 1)) (defScope (Sg.cF 1)) .none kVRd dcRd pmRd anRd cdRd ctRd), slRd⟩)
    (cRd : PySem.W.codeIn K cdRd "Flash.read" = true)
    (kRd : PySem.W.keepIn K (.ref fRd) = true)
    (aPr : PySem.W.findIn K (.ref C) "program" = some (some (.ref fPr)))
    (iPr : PySem.W.isFn K (.ref fPr) = true)
    (lPr : K.lookup fPr = some ⟨ocPr, odPr, .func (PySem.W.fnOf "program" "Flash.program" (defArgs (Sg.cF 2)) (defBody (Sg.cF 2)) (defScope (Sg.cF 2)) .none kVPr dcPr pmPr anPr cdPr ctPr), slPr⟩)
    (cPr : PySem.W.codeIn K cdPr "Flash.program" = true)
    (kPr : PySem.W.keepIn K (.ref fPr) = true)
    (aEr : PySem.W.findIn K (.ref C) "erase" = some (some (.ref fEr)))
    (iEr : PySem.W.isFn K (.ref fEr) = true)
    (lEr : K.lookup fEr = some ⟨ocEr, odEr, .func (PySem.W.fnOf "erase" "Flash.erase" (defArgs (Sg.cF 3)) (defBody (Sg.cF 3)) (defScope (Sg.cF 3)) .none kVEr dcEr pmEr anEr cdEr ctEr), slEr⟩)
    (cEr : PySem.W.codeIn K cdEr "Flash.erase" = true)
    (kEr : PySem.W.keepIn K (.ref fEr) = true)
    (aWe : PySem.W.findIn K (.ref C) "wear" = some (some (.ref fWe)))
    (iWe : PySem.W.isFn K (.ref fWe) = true)
    (lWe : K.lookup fWe = some ⟨ocWe, odWe, .func (PySem.W.fnOf "wear" "Flash.wear" (defArgs (Sg.cF 4)) (defBody (Sg.cF 4)) (defScope (Sg.cF 4)) .none kVWe dcWe pmWe anWe cdWe ctWe), slWe⟩)
    (cWe : PySem.W.codeIn K cdWe "Flash.wear" = true)
    (kWe : PySem.W.keepIn K (.ref fWe) = true)
    (aFl : PySem.W.findIn K (.ref C) "fail_after" = some (some (.ref fFl)))
    (iFl : PySem.W.isFn K (.ref fFl) = true)
    (lFl : K.lookup fFl = some ⟨ocFl, odFl, .func (PySem.W.fnOf "fail_after" "Flash.fail_after" (defArgs (Sg.cF 5)) (defBody (Sg.cF 5)) (defScope (Sg.cF 5)) .none kVFl dcFl pmFl anFl cdFl ctFl), slFl⟩)
    (cFl : PySem.W.codeIn K cdFl "Flash.fail_after" = true)
    (kFl : PySem.W.keepIn K (.ref fFl) = true)
    (aCu : PySem.W.findIn K (.ref C) "cut" = some (some (.ref fCu)))
    (iCu : PySem.W.isFn K (.ref fCu) = true)
    (lCu : K.lookup fCu = some ⟨ocCu, odCu, .func (PySem.W.fnOf "cut" "Flash.cut" (defArgs (Sg.cF 6)) (defBody (Sg.cF 6)) (defScope (Sg.cF 6)) .none kVCu dcCu pmCu anCu cdCu ctCu), slCu⟩)
    (cCu : PySem.W.codeIn K cdCu "Flash.cut" = true)
    (kCu : PySem.W.keepIn K (.ref fCu) = true)
    (aIg : PySem.W.findIn K (.ref C) "image" = some (some (.ref fIg)))
    (iIg : PySem.W.isFn K (.ref fIg) = true)
    (lIg : K.lookup fIg = some ⟨ocIg, odIg, .func (PySem.W.fnOf "image" "Flash.image" (defArgs (Sg.cF 7)) (defBody (Sg.cF 7)) (defScope (Sg.cF 7)) .none kVIg dcIg pmIg anIg cdIg ctIg), slIg⟩)
    (cIg : PySem.W.codeIn K cdIg "Flash.image" = true)
    (kIg : PySem.W.keepIn K (.ref fIg) = true)
    (aKb : PySem.W.findIn K (.ref C) "_check_block" = some (some (.ref fKb)))
    (iKb : PySem.W.isFn K (.ref fKb) = true)
    (lKb : K.lookup fKb = some ⟨ocKb, odKb, .func (PySem.W.fnOf "_check_block" "Flash._check_block" (defArgs (Sg.cF 8)) (defBody (Sg.cF 8)) (defScope (Sg.cF 8)) .none kVKb dcKb pmKb anKb cdKb ctKb), slKb⟩)
    (cKb : PySem.W.codeIn K cdKb "Flash._check_block" = true)
    (kKb : PySem.W.keepIn K (.ref fKb) = true)
    (aKp : PySem.W.findIn K (.ref C) "_check_page" = some (some (.ref fKp)))
    (iKp : PySem.W.isFn K (.ref fKp) = true)
    (lKp : K.lookup fKp = some ⟨ocKp, odKp, .func (PySem.W.fnOf "_check_page" "Flash._check_page" (defArgs (Sg.cF 9)) (defBody (Sg.cF 9)) (defScope (Sg.cF 9)) .none kVKp dcKp pmKp anKp cdKp ctKp), slKp⟩)
    (cKp : PySem.W.codeIn K cdKp "Flash._check_page" = true)
    (kKp : PySem.W.keepIn K (.ref fKp) = true)
    (aPo : PySem.W.findIn K (.ref C) "_check_power" = some (some (.ref fPo)))
    (iPo : PySem.W.isFn K (.ref fPo) = true)
    (lPo : K.lookup fPo = some ⟨ocPo, odPo, .func (PySem.W.fnOf "_check_power" "Flash._check_power" (defArgs (Sg.cF 10)) (defBody (Sg.cF 10)) (defScope (Sg.cF 10)) .none kVPo dcPo pmPo anPo cdPo ctPo), slPo⟩)
    (cPo : PySem.W.codeIn K cdPo "Flash._check_power" = true)
    (kPo : PySem.W.keepIn K (.ref fPo) = true)
    (aOp : PySem.W.findIn K (.ref C) "_operate" = some (some (.ref fOp)))
    (iOp : PySem.W.isFn K (.ref fOp) = true)
    (lOp : K.lookup fOp = some ⟨ocOp, odOp, .func (PySem.W.fnOf "_operate" "Flash._operate" (defArgs (Sg.cF 11)) (defBody (Sg.cF 11)) (defScope (Sg.cF 11)) .none kVOp dcOp pmOp anOp cdOp ctOp), slOp⟩)
    (cOp : PySem.W.codeIn K cdOp "Flash._operate" = true)
    (kOp : PySem.W.keepIn K (.ref fOp) = true)
    (aCa : PySem.W.findIn K (.ref C) "_carry_out" = some (some (.ref fCa)))
    (iCa : PySem.W.isFn K (.ref fCa) = true)
    (lCa : K.lookup fCa = some ⟨ocCa, odCa, .func (PySem.W.fnOf "_carry_out" "Flash._carry_out" (defArgs (Sg.cF 12)) (defBody (Sg.cF 12)) (defScope (Sg.cF 12)) .none kVCa dcCa pmCa anCa cdCa ctCa), slCa⟩)
    (cCa : PySem.W.codeIn K cdCa "Flash._carry_out" = true)
    (kCa : PySem.W.keepIn K (.ref fCa) = true)
    (aMI : PySem.W.findIn K (.ref CL) "__init__" = some (some (.ref fMI)))
    (iMI : PySem.W.isFn K (.ref fMI) = true)
    (lMI : K.lookup fMI = some ⟨ocMI, odMI, .func (PySem.W.fnOf "__init__" "Log.__init__" (defArgs (Sg.cL 0)) (defBody (Sg.cL 0)) (defScope (Sg.cL 0)) .none kVMI dcMI pmMI anMI cdMI ctMI), slMI⟩)
    (cMI : PySem.W.codeIn K cdMI "Log.__init__" = true)
    (kMI : PySem.W.keepIn K (.ref fMI) = true)
    (aMA : PySem.W.findIn K (.ref CL) "append" = some (some (.ref fMA)))
    (iMA : PySem.W.isFn K (.ref fMA) = true)
    (lMA : K.lookup fMA = some ⟨ocMA, odMA, .func (PySem.W.fnOf "append" "Log.append" (defArgs (Sg.cL 1)) (defBody (Sg.cL 1)) (defScope (Sg.cL 1)) .none kVMA dcMA pmMA anMA cdMA ctMA), slMA⟩)
    (cMA : PySem.W.codeIn K cdMA "Log.append" = true)
    (kMA : PySem.W.keepIn K (.ref fMA) = true)
    (aMO : PySem.W.findIn K (.ref CL) "room" = some (some (.ref fMO)))
    (iMO : PySem.W.isFn K (.ref fMO) = true)
    (lMO : K.lookup fMO = some ⟨ocMO, odMO, .func (PySem.W.fnOf "room" "Log.room" (defArgs (Sg.cL 2)) (defBody (Sg.cL 2)) (defScope (Sg.cL 2)) .none kVMO dcMO pmMO anMO cdMO ctMO), slMO⟩)
    (cMO : PySem.W.codeIn K cdMO "Log.room" = true)
    (kMO : PySem.W.keepIn K (.ref fMO) = true)
    (aME : PySem.W.findIn K (.ref CL) "erase" = some (some (.ref fME)))
    (iME : PySem.W.isFn K (.ref fME) = true)
    (lME : K.lookup fME = some ⟨ocME, odME, .func (PySem.W.fnOf "erase" "Log.erase" (defArgs (Sg.cL 3)) (defBody (Sg.cL 3)) (defScope (Sg.cL 3)) .none kVME dcME pmME anME cdME ctME), slME⟩)
    (cME : PySem.W.codeIn K cdME "Log.erase" = true)
    (kME : PySem.W.keepIn K (.ref fME) = true)
    (aMS : PySem.W.findIn K (.ref CL) "state" = some (some (.ref fMS)))
    (iMS : PySem.W.isFn K (.ref fMS) = true)
    (lMS : K.lookup fMS = some ⟨ocMS, odMS, .func (PySem.W.fnOf "state" "Log.state" (defArgs (Sg.cL 4)) (defBody (Sg.cL 4)) (defScope (Sg.cL 4)) .none kVMS dcMS pmMS anMS cdMS ctMS), slMS⟩)
    (cMS : PySem.W.codeIn K cdMS "Log.state" = true)
    (kMS : PySem.W.keepIn K (.ref fMS) = true)
    (aMF : PySem.W.findIn K (.ref CL) "free_blocks" = some (some (.ref fMF)))
    (iMF : PySem.W.isFn K (.ref fMF) = true)
    (lMF : K.lookup fMF = some ⟨ocMF, odMF, .func (PySem.W.fnOf "free_blocks" "Log.free_blocks" (defArgs (Sg.cL 5)) (defBody (Sg.cL 5)) (defScope (Sg.cL 5)) .none kVMF dcMF pmMF anMF cdMF ctMF), slMF⟩)
    (cMF : PySem.W.codeIn K cdMF "Log.free_blocks" = true)
    (kMF : PySem.W.keepIn K (.ref fMF) = true)
    (aMC : PySem.W.findIn K (.ref CL) "closed_blocks" = some (some (.ref fMC)))
    (iMC : PySem.W.isFn K (.ref fMC) = true)
    (lMC : K.lookup fMC = some ⟨ocMC, odMC, .func (PySem.W.fnOf "closed_blocks" "Log.closed_blocks" (defArgs (Sg.cL 6)) (defBody (Sg.cL 6)) (defScope (Sg.cL 6)) .none kVMC dcMC pmMC anMC cdMC ctMC), slMC⟩)
    (cMC : PySem.W.codeIn K cdMC "Log.closed_blocks" = true)
    (kMC : PySem.W.keepIn K (.ref fMC) = true)
    (aMP : PySem.W.findIn K (.ref CL) "pages" = some (some (.ref fMP)))
    (iMP : PySem.W.isFn K (.ref fMP) = true)
    (lMP : K.lookup fMP = some ⟨ocMP, odMP, .func (PySem.W.fnOf "pages" "Log.pages" (defArgs (Sg.cL 7)) (defBody (Sg.cL 7)) (defScope (Sg.cL 7)) .none kVMP dcMP pmMP anMP cdMP ctMP), slMP⟩)
    (cMP : PySem.W.codeIn K cdMP "Log.pages" = true)
    (kMP : PySem.W.keepIn K (.ref fMP) = true)
    (aMR : PySem.W.findIn K (.ref CL) "records" = some (some (.ref fMR)))
    (iMR : PySem.W.isFn K (.ref fMR) = true)
    (lMR : K.lookup fMR = some ⟨ocMR, odMR, .func (PySem.W.fnOf "records" "Log.records" (defArgs (Sg.cL 8)) (defBody (Sg.cL 8)) (defScope (Sg.cL 8)) .none kVMR dcMR pmMR anMR cdMR ctMR), slMR⟩)
    (cMR : PySem.W.codeIn K cdMR "Log.records" = true)
    (kMR : PySem.W.keepIn K (.ref fMR) = true)
    (aMT : PySem.W.findIn K (.ref CL) "top" = some (some (.ref fMT)))
    (iMT : PySem.W.isFn K (.ref fMT) = true)
    (lMT : K.lookup fMT = some ⟨ocMT, odMT, .func (PySem.W.fnOf "top" "Log.top" (defArgs (Sg.cL 9)) (defBody (Sg.cL 9)) (defScope (Sg.cL 9)) .none kVMT dcMT pmMT anMT cdMT ctMT), slMT⟩)
    (cMT : PySem.W.codeIn K cdMT "Log.top" = true)
    (kMT : PySem.W.keepIn K (.ref fMT) = true)
    (aMH : PySem.W.findIn K (.ref CL) "holders" = some (some (.ref fMH)))
    (iMH : PySem.W.isFn K (.ref fMH) = true)
    (lMH : K.lookup fMH = some ⟨ocMH, odMH, .func (PySem.W.fnOf "holders" "Log.holders" (defArgs (Sg.cL 10)) (defBody (Sg.cL 10)) (defScope (Sg.cL 10)) .none kVMH dcMH pmMH anMH cdMH ctMH), slMH⟩)
    (cMH : PySem.W.codeIn K cdMH "Log.holders" = true)
    (kMH : PySem.W.keepIn K (.ref fMH) = true)
    (aMB : PySem.W.findIn K (.ref CL) "_blocks_that_are" = some (some (.ref fMB)))
    (iMB : PySem.W.isFn K (.ref fMB) = true)
    (lMB : K.lookup fMB = some ⟨ocMB, odMB, .func (PySem.W.fnOf "_blocks_that_are" "Log._blocks_that_are" (defArgs (Sg.cL 11)) (defBody (Sg.cL 11)) (defScope (Sg.cL 11)) .none kVMB dcMB pmMB anMB cdMB ctMB), slMB⟩)
    (cMB : PySem.W.codeIn K cdMB "Log._blocks_that_are" = true)
    (kMB : PySem.W.keepIn K (.ref fMB) = true)
    (aMN : PySem.W.findIn K (.ref CL) "_next_block" = some (some (.ref fMN)))
    (iMN : PySem.W.isFn K (.ref fMN) = true)
    (lMN : K.lookup fMN = some ⟨ocMN, odMN, .func (PySem.W.fnOf "_next_block" "Log._next_block" (defArgs (Sg.cL 12)) (defBody (Sg.cL 12)) (defScope (Sg.cL 12)) .none kVMN dcMN pmMN anMN cdMN ctMN), slMN⟩)
    (cMN : PySem.W.codeIn K cdMN "Log._next_block" = true)
    (kMN : PySem.W.keepIn K (.ref fMN) = true)
    (aW : PySem.W.nsIn K mainGlobals "is_whole" = some (some (.ref fW)))
    (lW : K.lookup fW = some ⟨ocW, odW, .func (PySem.W.fnOf "is_whole" "is_whole" (defArgs Sg.sWhole) (defBody Sg.sWhole) (defScope Sg.sWhole) .none kVW dcW pmW anW cdW ctW), slW⟩)
    (cW : PySem.W.codeIn K cdW "is_whole" = true)
    (kW : PySem.W.keepIn K (.ref fW) = true)
    (aAL : PySem.W.nsIn K mainGlobals "is_at_least" = some (some (.ref fAL)))
    (lAL : K.lookup fAL = some ⟨ocAL, odAL, .func (PySem.W.fnOf "is_at_least" "is_at_least" (defArgs Sg.sAtLeast) (defBody Sg.sAtLeast) (defScope Sg.sAtLeast) .none kVAL dcAL pmAL anAL cdAL ctAL), slAL⟩)
    (cAL : PySem.W.codeIn K cdAL "is_at_least" = true)
    (kAL : PySem.W.keepIn K (.ref fAL) = true)
    (aB : PySem.W.nsIn K mainGlobals "is_between" = some (some (.ref fB)))
    (lB : K.lookup fB = some ⟨ocB, odB, .func (PySem.W.fnOf "is_between" "is_between" (defArgs Sg.sBetween) (defBody Sg.sBetween) (defScope Sg.sBetween) .none kVB dcB pmB anB cdB ctB), slB⟩)
    (cB : PySem.W.codeIn K cdB "is_between" = true)
    (kB : PySem.W.keepIn K (.ref fB) = true)
    (aIr : PySem.W.nsIn K mainGlobals "is_record" = some (some (.ref fIr)))
    (lIr : K.lookup fIr = some ⟨ocIr, odIr, .func (PySem.W.fnOf "is_record" "is_record" (defArgs Sg.sIsRec) (defBody Sg.sIsRec) (defScope Sg.sIsRec) .none kVIr dcIr pmIr anIr cdIr ctIr), slIr⟩)
    (cIr : PySem.W.codeIn K cdIr "is_record" = true)
    (kIr : PySem.W.keepIn K (.ref fIr) = true)
    (aFc : PySem.W.nsIn K mainGlobals "field_count" = some (some (.ref fFc)))
    (lFc : K.lookup fFc = some ⟨ocFc, odFc, .func (PySem.W.fnOf "field_count" "field_count" (defArgs Sg.sCount) (defBody Sg.sCount) (defScope Sg.sCount) .none kVFc dcFc pmFc anFc cdFc ctFc), slFc⟩)
    (cFc : PySem.W.codeIn K cdFc "field_count" = true)
    (kFc : PySem.W.keepIn K (.ref fFc) = true)
    (aIk : PySem.W.nsIn K mainGlobals "_is_kind" = some (some (.ref fIk)))
    (lIk : K.lookup fIk = some ⟨ocIk, odIk, .func (PySem.W.fnOf "_is_kind" "_is_kind" (defArgs Sg.sIsKind) (defBody Sg.sIsKind) (defScope Sg.sIsKind) .none kVIk dcIk pmIk anIk cdIk ctIk), slIk⟩)
    (cIk : PySem.W.codeIn K cdIk "_is_kind" = true)
    (kIk : PySem.W.keepIn K (.ref fIk) = true)
    (aIc : PySem.W.nsIn K mainGlobals "_is_counter" = some (some (.ref fIc)))
    (lIc : K.lookup fIc = some ⟨ocIc, odIc, .func (PySem.W.fnOf "_is_counter" "_is_counter" (defArgs Sg.sIsCounter) (defBody Sg.sIsCounter) (defScope Sg.sIsCounter) .none kVIc dcIc pmIc anIc cdIc ctIc), slIc⟩)
    (cIc : PySem.W.codeIn K cdIc "_is_counter" = true)
    (kIc : PySem.W.keepIn K (.ref fIc) = true)
    (aIf : PySem.W.nsIn K mainGlobals "_is_field" = some (some (.ref fIf)))
    (lIf : K.lookup fIf = some ⟨ocIf, odIf, .func (PySem.W.fnOf "_is_field" "_is_field" (defArgs Sg.sIsField) (defBody Sg.sIsField) (defScope Sg.sIsField) .none kVIf dcIf pmIf anIf cdIf ctIf), slIf⟩)
    (cIf : PySem.W.codeIn K cdIf "_is_field" = true)
    (kIf : PySem.W.keepIn K (.ref fIf) = true)
    (aIt : PySem.W.nsIn K mainGlobals "_is_told" = some (some (.ref fIt)))
    (lIt : K.lookup fIt = some ⟨ocIt, odIt, .func (PySem.W.fnOf "_is_told" "_is_told" (defArgs Sg.sIsTold) (defBody Sg.sIsTold) (defScope Sg.sIsTold) .none kVIt dcIt pmIt anIt cdIt ctIt), slIt⟩)
    (cIt : PySem.W.codeIn K cdIt "_is_told" = true)
    (kIt : PySem.W.keepIn K (.ref fIt) = true)
    (aFe : PySem.W.nsIn K mainGlobals "first_erased" = some (some (.ref fFe)))
    (lFe : K.lookup fFe = some ⟨ocFe, odFe, .func (PySem.W.fnOf "first_erased" "first_erased" (defArgs Sg.sFirst) (defBody Sg.sFirst) (defScope Sg.sFirst) .none kVFe dcFe pmFe anFe cdFe ctFe), slFe⟩)
    (cFe : PySem.W.codeIn K cdFe "first_erased" = true)
    (kFe : PySem.W.keepIn K (.ref fFe) = true)
    (aOn : PySem.W.nsIn K mainGlobals "each_once" = some (some (.ref fOn)))
    (lOn : K.lookup fOn = some ⟨ocOn, odOn, .func (PySem.W.fnOf "each_once" "each_once" (defArgs Sg.sOnce) (defBody Sg.sOnce) (defScope Sg.sOnce) .none kVOn dcOn pmOn anOn cdOn ctOn), slOn⟩)
    (cOn : PySem.W.codeIn K cdOn "each_once" = true)
    (kOn : PySem.W.keepIn K (.ref fOn) = true)
    (aRb : PySem.W.nsIn K mainGlobals "_read_block" = some (some (.ref fRb)))
    (lRb : K.lookup fRb = some ⟨ocRb, odRb, .func (PySem.W.fnOf "_read_block" "_read_block" (defArgs Sg.sReadBlk) (defBody Sg.sReadBlk) (defScope Sg.sReadBlk) .none kVRb dcRb pmRb anRb cdRb ctRb), slRb⟩)
    (cRb : PySem.W.codeIn K cdRb "_read_block" = true)
    (kRb : PySem.W.keepIn K (.ref fRb) = true)
    (aT : PySem.W.nsIn K mainGlobals "_law_tape" = some (some (.ref fT)))
    (lT : K.lookup fT = some ⟨ocT, odT, .func (PySem.W.fnOf "_law_tape" "_law_tape" (defArgs Sg.sTape) (defBody Sg.sTape) (defScope Sg.sTape) .none kVT dcT pmT anT cdT ctT), slT⟩)
    (cT : PySem.W.codeIn K cdT "_law_tape" = true)
    (kT : PySem.W.keepIn K (.ref fT) = true)
    (aA : PySem.W.nsIn K mainGlobals "_law_at" = some (some (.ref fA)))
    (lA : K.lookup fA = some ⟨ocA, odA, .func (PySem.W.fnOf "_law_at" "_law_at" (defArgs Sg.sAt) (defBody Sg.sAt) (defScope Sg.sAt) .none kVA dcA pmA anA cdA ctA), slA⟩)
    (cA : PySem.W.codeIn K cdA "_law_at" = true)
    (kA : PySem.W.keepIn K (.ref fA) = true)
    (aUs : PySem.W.nsIn K mainGlobals "_law_used" = some (some (.ref fUs)))
    (lUs : K.lookup fUs = some ⟨ocUs, odUs, .func (PySem.W.fnOf "_law_used" "_law_used" (defArgs Sg.sUsed) (defBody Sg.sUsed) (defScope Sg.sUsed) .none kVUs dcUs pmUs anUs cdUs ctUs), slUs⟩)
    (cUs : PySem.W.codeIn K cdUs "_law_used" = true)
    (kUs : PySem.W.keepIn K (.ref fUs) = true)
    (aLr : PySem.W.nsIn K mainGlobals "_law_record" = some (some (.ref fLr)))
    (lLr : K.lookup fLr = some ⟨ocLr, odLr, .func (PySem.W.fnOf "_law_record" "_law_record" (defArgs Sg.sLRecord) (defBody Sg.sLRecord) (defScope Sg.sLRecord) .none kVLr dcLr pmLr anLr cdLr ctLr), slLr⟩)
    (cLr : PySem.W.codeIn K cdLr "_law_record" = true)
    (kLr : PySem.W.keepIn K (.ref fLr) = true)
    (aLs : PySem.W.nsIn K mainGlobals "_law_state" = some (some (.ref fLs)))
    (lLs : K.lookup fLs = some ⟨ocLs, odLs, .func (PySem.W.fnOf "_law_state" "_law_state" (defArgs Sg.sLState) (defBody Sg.sLState) (defScope Sg.sLState) .none kVLs dcLs pmLs anLs cdLs ctLs), slLs⟩)
    (cLs : PySem.W.codeIn K cdLs "_law_state" = true)
    (kLs : PySem.W.keepIn K (.ref fLs) = true)
    (aLo : PySem.W.nsIn K mainGlobals "_law_room" = some (some (.ref fLo)))
    (lLo : K.lookup fLo = some ⟨ocLo, odLo, .func (PySem.W.fnOf "_law_room" "_law_room" (defArgs Sg.sLRoom) (defBody Sg.sLRoom) (defScope Sg.sLRoom) .none kVLo dcLo pmLo anLo cdLo ctLo), slLo⟩)
    (cLo : PySem.W.codeIn K cdLo "_law_room" = true)
    (kLo : PySem.W.keepIn K (.ref fLo) = true)
    (aTa : PySem.W.nsIn K mainGlobals "_law_target" = some (some (.ref fTa)))
    (lTa : K.lookup fTa = some ⟨ocTa, odTa, .func (PySem.W.fnOf "_law_target" "_law_target" (defArgs Sg.sTarget) (defBody Sg.sTarget) (defScope Sg.sTarget) .none kVTa dcTa pmTa anTa cdTa ctTa), slTa⟩)
    (cTa : PySem.W.codeIn K cdTa "_law_target" = true)
    (kTa : PySem.W.keepIn K (.ref fTa) = true)
    (aFo : PySem.W.nsIn K mainGlobals "_law_found" = some (some (.ref fFo)))
    (lFo : K.lookup fFo = some ⟨ocFo, odFo, .func (PySem.W.fnOf "_law_found" "_law_found" (defArgs Sg.sFound) (defBody Sg.sFound) (defScope Sg.sFound) .none kVFo dcFo pmFo anFo cdFo ctFo), slFo⟩)
    (cFo : PySem.W.codeIn K cdFo "_law_found" = true)
    (kFo : PySem.W.keepIn K (.ref fFo) = true)
    (aSa : PySem.W.nsIn K mainGlobals "_law_same" = some (some (.ref fSa)))
    (lSa : K.lookup fSa = some ⟨ocSa, odSa, .func (PySem.W.fnOf "_law_same" "_law_same" (defArgs Sg.sSame) (defBody Sg.sSame) (defScope Sg.sSame) .none kVSa dcSa pmSa anSa cdSa ctSa), slSa⟩)
    (cSa : PySem.W.codeIn K cdSa "_law_same" = true)
    (kSa : PySem.W.keepIn K (.ref fSa) = true)
    (aRx : PySem.W.nsIn K mainGlobals "_law_reads" = some (some (.ref fRx)))
    (lRx : K.lookup fRx = some ⟨ocRx, odRx, .func (PySem.W.fnOf "_law_reads" "_law_reads" (defArgs Sg.sReads) (defBody Sg.sReads) (defScope Sg.sReads) .none kVRx dcRx pmRx anRx cdRx ctRx), slRx⟩)
    (cRx : PySem.W.codeIn K cdRx "_law_reads" = true)
    (kRx : PySem.W.keepIn K (.ref fRx) = true)
    (aDo : PySem.W.nsIn K mainGlobals "_law_do" = some (some (.ref fDo)))
    (lDo : K.lookup fDo = some ⟨ocDo, odDo, .func (PySem.W.fnOf "_law_do" "_law_do" (defArgs Sg.sDo) (defBody Sg.sDo) (defScope Sg.sDo) .none kVDo dcDo pmDo anDo cdDo ctDo), slDo⟩)
    (cDo : PySem.W.codeIn K cdDo "_law_do" = true)
    (kDo : PySem.W.keepIn K (.ref fDo) = true)
    (aAy : PySem.W.nsIn K mainGlobals "_law_apply" = some (some (.ref fAy)))
    (lAy : K.lookup fAy = some ⟨ocAy, odAy, .func (PySem.W.fnOf "_law_apply" "_law_apply" (defArgs Sg.sApply) (defBody Sg.sApply) (defScope Sg.sApply) .none kVAy dcAy pmAy anAy cdAy ctAy), slAy⟩)
    (cAy : PySem.W.codeIn K cdAy "_law_apply" = true)
    (kAy : PySem.W.keepIn K (.ref fAy) = true)
    (aSp : PySem.W.nsIn K mainGlobals "_law_spare" = some (some (.ref fSp)))
    (lSp : K.lookup fSp = some ⟨ocSp, odSp, .func (PySem.W.fnOf "_law_spare" "_law_spare" (defArgs Sg.sSpare) (defBody Sg.sSpare) (defScope Sg.sSpare) .none kVSp dcSp pmSp anSp cdSp ctSp), slSp⟩)
    (cSp : PySem.W.codeIn K cdSp "_law_spare" = true)
    (kSp : PySem.W.keepIn K (.ref fSp) = true)
    (aEl : PySem.W.nsIn K mainGlobals "_law_elsewhere" = some (some (.ref fEl)))
    (lEl : K.lookup fEl = some ⟨ocEl, odEl, .func (PySem.W.fnOf "_law_elsewhere" "_law_elsewhere" (defArgs Sg.sElse) (defBody Sg.sElse) (defScope Sg.sElse) .none kVEl dcEl pmEl anEl cdEl ctEl), slEl⟩)
    (cEl : PySem.W.codeIn K cdEl "_law_elsewhere" = true)
    (kEl : PySem.W.keepIn K (.ref fEl) = true)
    (aCh : PySem.W.nsIn K mainGlobals "_law_choose" = some (some (.ref fCh)))
    (lCh : K.lookup fCh = some ⟨ocCh, odCh, .func (PySem.W.fnOf "_law_choose" "_law_choose" (defArgs Sg.sChoose) (defBody Sg.sChoose) (defScope Sg.sChoose) .none kVCh dcCh pmCh anCh cdCh ctCh), slCh⟩)
    (cCh : PySem.W.codeIn K cdCh "_law_choose" = true)
    (kCh : PySem.W.keepIn K (.ref fCh) = true)
    (aOr : PySem.W.nsIn K mainGlobals "_law_orders" = some (some (.ref fOr)))
    (lOr : K.lookup fOr = some ⟨ocOr, odOr, .func (PySem.W.fnOf "_law_orders" "_law_orders" (defArgs Sg.sOrders) (defBody Sg.sOrders) (defScope Sg.sOrders) .none kVOr dcOr pmOr anOr cdOr ctOr), slOr⟩)
    (cOr : PySem.W.codeIn K cdOr "_law_orders" = true)
    (kOr : PySem.W.keepIn K (.ref fOr) = true)
    (aL : PySem.W.nsIn K mainGlobals "law" = some (some (.ref fL)))
    (lL : K.lookup fL = some ⟨ocL, odL, .func (PySem.W.fnOf "law" "law" (defArgs Sg.sLaw) (defBody Sg.sLaw) (defScope Sg.sLaw) .none kVL dcL pmL anL cdL ctL), slL⟩)
    (cL : PySem.W.codeIn K cdL "law" = true)
    (kL : PySem.W.keepIn K (.ref fL) = true)
    : ∃ fd : FuncData, (∀ (s : Shared) (v : Value), BindsTo s fd ⟨[v], []⟩ [("script", v)]) ∧ ∀ base : Heap, K.In base → base.Ns mainGlobals mg → FnOk l.prog w K mg base CX0 10 fa fd ["script"] (spLaw K) := by
  have e := hfa.symm.trans (PySem.W.mg_of X G aL)
  cases e
  have NVx : NV K mg CN CS := ⟨PySem.W.mg_of X G aN_, xNe, kNe, bNe, tNe, PySem.W.mg_of X G aS_, exm_sub bSe iSe tSe sNe⟩
  have RXx : RX K w mg aK aF := by
    refine ⟨PySem.W.mg_of X G gKINDS, fun H => .inr ⟨_, _, _, lKINDS, rfl, rfl, (show (12 : Nat) ≤ sizeLine by decide), (.cons ⟨_, rfl⟩ (.cons ⟨_, rfl⟩ (.cons ⟨_, rfl⟩ (.cons ⟨_, rfl⟩ (.cons ⟨_, rfl⟩ (.cons ⟨_, rfl⟩ (.cons ⟨_, rfl⟩ (.cons ⟨_, rfl⟩ (.cons ⟨_, rfl⟩ (.cons ⟨_, rfl⟩ (.cons ⟨_, rfl⟩ (.cons ⟨_, rfl⟩ .nil))))))))))))⟩, ⟨_, lKINDS, rfl, rfl⟩, PySem.W.mg_of X G gFIELDS, fun p hp => ?_, ⟨_, PySem.W.mg_of X G gHEAD⟩, ⟨_, PySem.W.mg_of X G gHOSTS⟩, ⟨_, PySem.W.mg_of X G gNAMESPACES⟩, ⟨_, PySem.W.mg_of X G gPLACES⟩⟩
    simp only [fieldT, List.mem_cons, List.not_mem_nil, or_false] at hp
    rcases hp with rfl | rfl | rfl | rfl | rfl | rfl | rfl | rfl | rfl | rfl | rfl | rfl
    · exact ⟨aT0, ⟨_, _, _, lFIELDS, kFIELDS, nT0, rfl⟩, fun H => .inr ⟨_, _, _, lT0, rfl, rfl, (show (1 : Nat) ≤ sizeLine by decide), (.cons ⟨_, rfl⟩ .nil)⟩⟩
    · exact ⟨aT1, ⟨_, _, _, lFIELDS, kFIELDS, nT1, rfl⟩, fun H => .inr ⟨_, _, _, lT1, rfl, rfl, (show (2 : Nat) ≤ sizeLine by decide), (.cons ⟨_, rfl⟩ (.cons ⟨_, rfl⟩ .nil))⟩⟩
    · exact ⟨aT2, ⟨_, _, _, lFIELDS, kFIELDS, nT2, rfl⟩, fun H => .inr ⟨_, _, _, lT2, rfl, rfl, (show (1 : Nat) ≤ sizeLine by decide), (.cons ⟨_, rfl⟩ .nil)⟩⟩
    · exact ⟨aT3, ⟨_, _, _, lFIELDS, kFIELDS, nT3, rfl⟩, fun H => .inr ⟨_, _, _, lT3, rfl, rfl, (show (3 : Nat) ≤ sizeLine by decide), (.cons ⟨_, rfl⟩ (.cons ⟨_, rfl⟩ (.cons ⟨_, rfl⟩ .nil)))⟩⟩
    · exact ⟨aT4, ⟨_, _, _, lFIELDS, kFIELDS, nT4, rfl⟩, fun H => .inr ⟨_, _, _, lT4, rfl, rfl, (show (2 : Nat) ≤ sizeLine by decide), (.cons ⟨_, rfl⟩ (.cons ⟨_, rfl⟩ .nil))⟩⟩
    · exact ⟨aT5, ⟨_, _, _, lFIELDS, kFIELDS, nT5, rfl⟩, fun H => .inr ⟨_, _, _, lT5, rfl, rfl, (show (1 : Nat) ≤ sizeLine by decide), (.cons ⟨_, rfl⟩ .nil)⟩⟩
    · exact ⟨aT6, ⟨_, _, _, lFIELDS, kFIELDS, nT6, rfl⟩, fun H => .inr ⟨_, _, _, lT6, rfl, rfl, (show (2 : Nat) ≤ sizeLine by decide), (.cons ⟨_, rfl⟩ (.cons ⟨_, rfl⟩ .nil))⟩⟩
    · exact ⟨aT7, ⟨_, _, _, lFIELDS, kFIELDS, nT7, rfl⟩, fun H => .inr ⟨_, _, _, lT7, rfl, rfl, (show (1 : Nat) ≤ sizeLine by decide), (.cons ⟨_, rfl⟩ .nil)⟩⟩
    · exact ⟨aT8, ⟨_, _, _, lFIELDS, kFIELDS, nT8, rfl⟩, fun H => .inr ⟨_, _, _, lT8, rfl, rfl, (show (2 : Nat) ≤ sizeLine by decide), (.cons ⟨_, rfl⟩ (.cons ⟨_, rfl⟩ .nil))⟩⟩
    · exact ⟨aT9, ⟨_, _, _, lFIELDS, kFIELDS, nT9, rfl⟩, fun H => .inr ⟨_, _, _, lT9, rfl, rfl, (show (2 : Nat) ≤ sizeLine by decide), (.cons ⟨_, rfl⟩ (.cons ⟨_, rfl⟩ .nil))⟩⟩
    · exact ⟨aT10, ⟨_, _, _, lFIELDS, kFIELDS, nT10, rfl⟩, fun H => .inr ⟨_, _, _, lT10, rfl, rfl, (show (1 : Nat) ≤ sizeLine by decide), (.cons ⟨_, rfl⟩ .nil)⟩⟩
    · exact ⟨aT11, ⟨_, _, _, lFIELDS, kFIELDS, nT11, rfl⟩, fun H => .inr ⟨_, _, _, lT11, rfl, rfl, (show (3 : Nat) ≤ sizeLine by decide), (.cons ⟨_, rfl⟩ (.cons ⟨_, rfl⟩ (.cons ⟨_, rfl⟩ .nil)))⟩⟩
  have B : Blt mg := ⟨PySem.W.mg_none_of X G z_range, PySem.W.mg_none_of X G z_len, PySem.W.mg_none_of X G z_abs, PySem.W.mg_none_of X G z_int⟩
  have D : Bds mg fW := ⟨PySem.W.mg_none_of X G z_isinstance, PySem.W.mg_none_of X G z_int, PySem.W.mg_none_of X G z_bool, PySem.W.mg_of X G aW⟩
  have T : FT K mg C CN CP CS fW fB := { cl := ⟨pgF, hdF, poF, saF⟩, n1 := n1, n2 := n2, n3 := n3, n4 := n4, n5 := n5, n6 := n6, gC := PySem.W.mg_of X G aC, gN := PySem.W.mg_of X G aN_, xN := xNe, kN := kNe, bN := bNe, tN := tNe, gP := PySem.W.mg_of X G aP_, xP := xPe, kP := kPe, bP := bPe, tP := tPe, gS := PySem.W.mg_of X G aS_, eN := exm_sub bSe iSe tSe sNe, eP := exm_sub bSe iSe tSe sPe, gB := PySem.W.mg_of X G aB, bd := D, bt := B, lst := PySem.W.mg_none_of X G z_list, tup := PySem.W.mg_none_of X G z_tuple, pag := ⟨_, PySem.W.mg_of X G gPAGES⟩, mnb := ⟨_, PySem.W.mg_of X G gMIN_BLOCKS⟩, mxb := ⟨_, PySem.W.mg_of X G gMAX_BLOCKS⟩ }
  have Y : LT K mg CL := ⟨⟨pgL, hdL, poL, saL⟩, m1, m2, PySem.W.mg_none_of X G z_sum, PySem.W.mg_none_of X G z_min, PySem.W.mg_none_of X G z_sorted, PySem.W.mg_of X G aCL⟩
  have Z : LE K mg CB CR CS := ⟨PySem.W.mg_of X G aB_, xBe, kBe, bBe, tBe, exm_sub bSe iSe tSe sBe, PySem.W.mg_of X G aR_, xRe, kRe, bRe, tRe, exm_sub bSe iSe tSe sRe⟩
  have eP := exm_sub bPe iPe tPe sPPe
  have Dx : Sr.Bds mg fW := ⟨PySem.W.mg_none_of X G z_isinstance, PySem.W.mg_none_of X G z_int, PySem.W.mg_none_of X G z_bool, PySem.W.mg_none_of X G z_str, PySem.W.mg_none_of X G z_tuple, PySem.W.mg_none_of X G z_list, PySem.W.mg_of X G aW⟩
  have FI := fun_mk (st := (Sg.cF 0)) lI cI kI
  have FRd := fun_mk (st := (Sg.cF 1)) lRd cRd kRd
  have FPr := fun_mk (st := (Sg.cF 2)) lPr cPr kPr
  have FEr := fun_mk (st := (Sg.cF 3)) lEr cEr kEr
  have FWe := fun_mk (st := (Sg.cF 4)) lWe cWe kWe
  have FFl := fun_mk (st := (Sg.cF 5)) lFl cFl kFl
  have FCu := fun_mk (st := (Sg.cF 6)) lCu cCu kCu
  have FIg := fun_mk (st := (Sg.cF 7)) lIg cIg kIg
  have FKb := fun_mk (st := (Sg.cF 8)) lKb cKb kKb
  have FKp := fun_mk (st := (Sg.cF 9)) lKp cKp kKp
  have FPo := fun_mk (st := (Sg.cF 10)) lPo cPo kPo
  have FOp := fun_mk (st := (Sg.cF 11)) lOp cOp kOp
  have FCa := fun_mk (st := (Sg.cF 12)) lCa cCa kCa
  have FMI := fun_mk (st := (Sg.cL 0)) lMI cMI kMI
  have FMA := fun_mk (st := (Sg.cL 1)) lMA cMA kMA
  have FMO := fun_mk (st := (Sg.cL 2)) lMO cMO kMO
  have FME := fun_mk (st := (Sg.cL 3)) lME cME kME
  have FMS := fun_mk (st := (Sg.cL 4)) lMS cMS kMS
  have FMF := fun_mk (st := (Sg.cL 5)) lMF cMF kMF
  have FMC := fun_mk (st := (Sg.cL 6)) lMC cMC kMC
  have FMP := fun_mk (st := (Sg.cL 7)) lMP cMP kMP
  have FMR := fun_mk (st := (Sg.cL 8)) lMR cMR kMR
  have FMT := fun_mk (st := (Sg.cL 9)) lMT cMT kMT
  have FMH := fun_mk (st := (Sg.cL 10)) lMH cMH kMH
  have FMB := fun_mk (st := (Sg.cL 11)) lMB cMB kMB
  have FMN := fun_mk (st := (Sg.cL 12)) lMN cMN kMN
  have FW := fun_mk (st := Sg.sWhole) lW cW kW
  have FAL := fun_mk (st := Sg.sAtLeast) lAL cAL kAL
  have FB := fun_mk (st := Sg.sBetween) lB cB kB
  have FIr := fun_mk (st := Sg.sIsRec) lIr cIr kIr
  have FFc := fun_mk (st := Sg.sCount) lFc cFc kFc
  have FIk := fun_mk (st := Sg.sIsKind) lIk cIk kIk
  have FIc := fun_mk (st := Sg.sIsCounter) lIc cIc kIc
  have FIf := fun_mk (st := Sg.sIsField) lIf cIf kIf
  have FIt := fun_mk (st := Sg.sIsTold) lIt cIt kIt
  have FFe := fun_mk (st := Sg.sFirst) lFe cFe kFe
  have FOn := fun_mk (st := Sg.sOnce) lOn cOn kOn
  have FRb := fun_mk (st := Sg.sReadBlk) lRb cRb kRb
  have FT := fun_mk (st := Sg.sTape) lT cT kT
  have FA := fun_mk (st := Sg.sAt) lA cA kA
  have FUs := fun_mk (st := Sg.sUsed) lUs cUs kUs
  have FLr := fun_mk (st := Sg.sLRecord) lLr cLr kLr
  have FLs := fun_mk (st := Sg.sLState) lLs cLs kLs
  have FLo := fun_mk (st := Sg.sLRoom) lLo cLo kLo
  have FTa := fun_mk (st := Sg.sTarget) lTa cTa kTa
  have FFo := fun_mk (st := Sg.sFound) lFo cFo kFo
  have FSa := fun_mk (st := Sg.sSame) lSa cSa kSa
  have FRx := fun_mk (st := Sg.sReads) lRx cRx kRx
  have FDo := fun_mk (st := Sg.sDo) lDo cDo kDo
  have FAy := fun_mk (st := Sg.sApply) lAy cAy kAy
  have FSp := fun_mk (st := Sg.sSpare) lSp cSp kSp
  have FEl := fun_mk (st := Sg.sElse) lEl cEl kEl
  have FCh := fun_mk (st := Sg.sChoose) lCh cCh kCh
  have FOr := fun_mk (st := Sg.sOrders) lOr cOr kOr
  have FL := fun_mk (st := Sg.sLaw) lL cL kL
  have bI := FI.binds (ps := ["self", "blocks"]) fun _ _ _ _ _ _ us hl => match us, hl with | [_, _], _ => rfl
  have bRd := FRd.binds (ps := ["self", "block", "page"]) fun _ _ _ _ _ _ us hl => match us, hl with | [_, _, _], _ => rfl
  have bPr := FPr.binds (ps := ["self", "block", "page", "record"]) fun _ _ _ _ _ _ us hl => match us, hl with | [_, _, _, _], _ => rfl
  have bEr := FEr.binds (ps := ["self", "block"]) fun _ _ _ _ _ _ us hl => match us, hl with | [_, _], _ => rfl
  have bWe := FWe.binds (ps := ["self", "block"]) fun _ _ _ _ _ _ us hl => match us, hl with | [_, _], _ => rfl
  have bFl := FFl.binds (ps := ["self", "count"]) fun _ _ _ _ _ _ us hl => match us, hl with | [_, _], _ => rfl
  have bCu := FCu.binds (ps := ["self", "choice"]) fun _ _ _ _ _ _ us hl => match us, hl with | [_, _], _ => rfl
  have bIg := FIg.binds (ps := ["self"]) fun _ _ _ _ _ _ us hl => match us, hl with | [_], _ => rfl
  have bKb := FKb.binds (ps := ["self", "block"]) fun _ _ _ _ _ _ us hl => match us, hl with | [_, _], _ => rfl
  have bKp := FKp.binds (ps := ["self", "block", "page"]) fun _ _ _ _ _ _ us hl => match us, hl with | [_, _, _], _ => rfl
  have bPo := FPo.binds (ps := ["self"]) fun _ _ _ _ _ _ us hl => match us, hl with | [_], _ => rfl
  have bOp := FOp.binds (ps := ["self", "block", "page", "content"]) fun _ _ _ _ _ _ us hl => match us, hl with | [_, _, _, _], _ => rfl
  have bCa := FCa.binds (ps := ["self", "block", "page", "content"]) fun _ _ _ _ _ _ us hl => match us, hl with | [_, _, _, _], _ => rfl
  have bMI := FMI.binds (ps := ["self", "flash"]) fun _ _ _ _ _ _ us hl => match us, hl with | [_, _], _ => rfl
  have bMA := FMA.binds (ps := ["self", "record", "is_copy"]) fun _ _ _ _ _ _ us hl => match us, hl with | [_, _, _], _ => rfl
  have bMO := FMO.binds (ps := ["self", "is_copy"]) fun _ _ _ _ _ _ us hl => match us, hl with | [_, _], _ => rfl
  have bME := FME.binds (ps := ["self", "block"]) fun _ _ _ _ _ _ us hl => match us, hl with | [_, _], _ => rfl
  have bMS := FMS.binds (ps := ["self", "block"]) fun _ _ _ _ _ _ us hl => match us, hl with | [_, _], _ => rfl
  have bMF := FMF.binds (ps := ["self"]) fun _ _ _ _ _ _ us hl => match us, hl with | [_], _ => rfl
  have bMC := FMC.binds (ps := ["self"]) fun _ _ _ _ _ _ us hl => match us, hl with | [_], _ => rfl
  have bMP := FMP.binds (ps := ["self", "block"]) fun _ _ _ _ _ _ us hl => match us, hl with | [_, _], _ => rfl
  have bMR := FMR.binds (ps := ["self"]) fun _ _ _ _ _ _ us hl => match us, hl with | [_], _ => rfl
  have bMT := FMT.binds (ps := ["self"]) fun _ _ _ _ _ _ us hl => match us, hl with | [_], _ => rfl
  have bMH := FMH.binds (ps := ["self", "record"]) fun _ _ _ _ _ _ us hl => match us, hl with | [_, _], _ => rfl
  have bMB := FMB.binds (ps := ["self", "state"]) fun _ _ _ _ _ _ us hl => match us, hl with | [_, _], _ => rfl
  have bMN := FMN.binds (ps := ["self"]) fun _ _ _ _ _ _ us hl => match us, hl with | [_], _ => rfl
  have bW := FW.binds (ps := ["value"]) fun _ _ _ _ _ _ us hl => match us, hl with | [_], _ => rfl
  have bAL := FAL.binds (ps := ["value", "low"]) fun _ _ _ _ _ _ us hl => match us, hl with | [_, _], _ => rfl
  have bB := FB.binds (ps := ["value", "low", "high"]) fun _ _ _ _ _ _ us hl => match us, hl with | [_, _, _], _ => rfl
  have bIr := FIr.binds (ps := ["value"]) fun _ _ _ _ _ _ us hl => match us, hl with | [_], _ => rfl
  have bFc := FFc.binds (ps := ["kind"]) fun _ _ _ _ _ _ us hl => match us, hl with | [_], _ => rfl
  have bIk := FIk.binds (ps := ["value"]) fun _ _ _ _ _ _ us hl => match us, hl with | [_], _ => rfl
  have bIc := FIc.binds (ps := ["value", "kind"]) fun _ _ _ _ _ _ us hl => match us, hl with | [_, _], _ => rfl
  have bIf := FIf.binds (ps := ["name", "value", "order"]) fun _ _ _ _ _ _ us hl => match us, hl with | [_, _, _], _ => rfl
  have bIt := FIt.binds (ps := ["value"]) fun _ _ _ _ _ _ us hl => match us, hl with | [_], _ => rfl
  have bFe := FFe.binds (ps := ["pages"]) fun _ _ _ _ _ _ us hl => match us, hl with | [_], _ => rfl
  have bOn := FOn.binds (ps := ["records"]) fun _ _ _ _ _ _ us hl => match us, hl with | [_], _ => rfl
  have bRb := FRb.binds (ps := ["flash", "block"]) fun _ _ _ _ _ _ us hl => match us, hl with | [_, _], _ => rfl
  have bT := FT.binds (ps := ["script"]) fun _ _ _ _ _ _ us hl => match us, hl with | [_], _ => rfl
  have bA := FA.binds (ps := ["tape", "k"]) fun _ _ _ _ _ _ us hl => match us, hl with | [_, _], _ => rfl
  have bUs := FUs.binds (ps := ["pages"]) fun _ _ _ _ _ _ us hl => match us, hl with | [_], _ => rfl
  have bLr := FLr.binds (ps := ["order"]) fun _ _ _ _ _ _ us hl => match us, hl with | [_], _ => rfl
  have bLs := FLs.binds (ps := ["held", "block"]) fun _ _ _ _ _ _ us hl => match us, hl with | [_, _], _ => rfl
  have bLo := FLo.binds (ps := ["held", "is_copy"]) fun _ _ _ _ _ _ us hl => match us, hl with | [_, _], _ => rfl
  have bTa := FTa.binds (ps := ["held", "wears"]) fun _ _ _ _ _ _ us hl => match us, hl with | [_, _], _ => rfl
  have bFo := FFo.binds (ps := ["held"]) fun _ _ _ _ _ _ us hl => match us, hl with | [_], _ => rfl
  have bSa := FSa.binds (ps := ["log", "held"]) fun _ _ _ _ _ _ us hl => match us, hl with | [_, _], _ => rfl
  have bRx := FRx.binds (ps := ["log", "held"]) fun _ _ _ _ _ _ us hl => match us, hl with | [_, _], _ => rfl
  have bDo := FDo.binds (ps := ["log", "act", "what", "is_copy"]) fun _ _ _ _ _ _ us hl => match us, hl with | [_, _, _, _], _ => rfl
  have bAy := FAy.binds (ps := ["held", "wears", "act", "block", "content"]) fun _ _ _ _ _ _ us hl => match us, hl with | [_, _, _, _, _], _ => rfl
  have bSp := FSp.binds (ps := ["held"]) fun _ _ _ _ _ _ us hl => match us, hl with | [_], _ => rfl
  have bEl := FEl.binds (ps := ["held", "block", "page"]) fun _ _ _ _ _ _ us hl => match us, hl with | [_, _, _], _ => rfl
  have bCh := FCh.binds (ps := ["held", "number", "pick", "order"]) fun _ _ _ _ _ _ us hl => match us, hl with | [_, _, _, _], _ => rfl
  have bOr := FOr.binds (ps := ["held"]) fun _ _ _ _ _ _ us hl => match us, hl with | [_], _ => rfl
  refine ⟨PySem.W.fnOf "law" "law" (defArgs sLaw) (defBody sLaw) (defScope sLaw) .none kVL dcL pmL anL cdL ctL, fun s v => .of_eq rfl, fun base _ _ => ?_⟩
  have mI : Meth K C "__init__" fI := ⟨aI, iI, kI⟩
  have mRd : Meth K C "read" fRd := ⟨aRd, iRd, kRd⟩
  have mPr : Meth K C "program" fPr := ⟨aPr, iPr, kPr⟩
  have mEr : Meth K C "erase" fEr := ⟨aEr, iEr, kEr⟩
  have mWe : Meth K C "wear" fWe := ⟨aWe, iWe, kWe⟩
  have mFl : Meth K C "fail_after" fFl := ⟨aFl, iFl, kFl⟩
  have mCu : Meth K C "cut" fCu := ⟨aCu, iCu, kCu⟩
  have mIg : Meth K C "image" fIg := ⟨aIg, iIg, kIg⟩
  have mKb : Meth K C "_check_block" fKb := ⟨aKb, iKb, kKb⟩
  have mKp : Meth K C "_check_page" fKp := ⟨aKp, iKp, kKp⟩
  have mPo : Meth K C "_check_power" fPo := ⟨aPo, iPo, kPo⟩
  have mOp : Meth K C "_operate" fOp := ⟨aOp, iOp, kOp⟩
  have mCa : Meth K C "_carry_out" fCa := ⟨aCa, iCa, kCa⟩
  have mMI : Meth K CL "__init__" fMI := ⟨aMI, iMI, kMI⟩
  have mMA : Meth K CL "append" fMA := ⟨aMA, iMA, kMA⟩
  have mMO : Meth K CL "room" fMO := ⟨aMO, iMO, kMO⟩
  have mME : Meth K CL "erase" fME := ⟨aME, iME, kME⟩
  have mMS : Meth K CL "state" fMS := ⟨aMS, iMS, kMS⟩
  have mMF : Meth K CL "free_blocks" fMF := ⟨aMF, iMF, kMF⟩
  have mMC : Meth K CL "closed_blocks" fMC := ⟨aMC, iMC, kMC⟩
  have mMP : Meth K CL "pages" fMP := ⟨aMP, iMP, kMP⟩
  have mMR : Meth K CL "records" fMR := ⟨aMR, iMR, kMR⟩
  have mMT : Meth K CL "top" fMT := ⟨aMT, iMT, kMT⟩
  have mMH : Meth K CL "holders" fMH := ⟨aMH, iMH, kMH⟩
  have mMB : Meth K CL "_blocks_that_are" fMB := ⟨aMB, iMB, kMB⟩
  have mMN : Meth K CL "_next_block" fMN := ⟨aMN, iMN, kMN⟩
  have GB : GBet l.prog w K mg base fB _ := ⟨Sg.ok_between FB D FW bW, bB, kB⟩
  have GKb := ok_ckB FKb T GB
  have GKp := ok_ckP FKp T GB GKb bKb mKb
  have GPo := ok_pow (P := l.prog) (wd := w) (base := base) FPo T
  have GCa := ok_carry (P := l.prog) (wd := w) (base := base) FCa T
  have GOp := ok_oper FOp T GPo bPo mPo GCa bCa mCa
  have GFe := ok_first (P := l.prog) (wd := w) (base := base) FFe T
  have GRd := ok_read FRd T GKp bKp mKp GPo bPo mPo
  have GWe := ok_wear FWe T GKb bKb mKb
  have GEr := ok_erase FEr T GKb bKb mKb GOp bOp mOp
  have GPr := ok_prog FPr T GKp bKp mKp GOp bOp mOp GFe bFe kFe (PySem.W.mg_of X G aFe)
  have GIg := ok_image (P := l.prog) (wd := w) (base := base) FIg T
  have GI := Sg.ok_init FI T GB
  have M : Mk K C fI := ⟨mkF, aI, iI, kcF⟩
  have ML : Mk K CL fMI := ⟨mkL, aMI, iMI, kcL⟩
  have gB := Sg.Def.mk (Sg.ok_between (P := l.prog) (w := w) (base := base) FB D FW bW) bB kB (PySem.W.mg_of X G aB)
  have gFe := Sg.Def.mk (GFe) bFe kFe (PySem.W.mg_of X G aFe)
  have dRd := Sg.MDef.mk (GRd) bRd mRd
  have dWe := Sg.MDef.mk (GWe) bWe mWe
  have dEr := Sg.MDef.mk (GEr) bEr mEr
  have dPr := Sg.MDef.mk (GPr) bPr mPr
  have dIg := Sg.MDef.mk (GIg) bIg mIg
  have dFl := Sg.MDef.mk (ok_fail FFl T GB ⟨_, PySem.W.mg_of X G gMOST_OPERATIONS⟩) bFl mFl
  have dCu := Sg.MDef.mk (ok_cut FCu T GB ⟨_, PySem.W.mg_of X G gTORN⟩ GCa bCa mCa) bCu mCu
  have rW := Sr.Def.mk (Sr.ok_whole (P := l.prog) (wrl := w) (base := base) FW Dx) bW kW (PySem.W.mg_of X G aW)
  have rAL := Sr.Def.mk (Sr.ok_atLeast (P := l.prog) (wrl := w) (base := base) FAL Dx FW bW) bAL kAL (PySem.W.mg_of X G aAL)
  have rB := Sr.Def.mk (Sr.ok_between (P := l.prog) (wrl := w) (base := base) FB Dx FW bW) bB kB (PySem.W.mg_of X G aB)
  have rIt := Sr.Def.mk (Sr.ok_isTold FIt Dx (PySem.W.mg_none_of X G z_len) rAL) bIt kIt (PySem.W.mg_of X G aIt)
  have rIk := Sr.Def.mk (Sr.ok_isKind (P := l.prog) (base := base) FIk Dx RXx) bIk kIk (PySem.W.mg_of X G aIk)
  have rIc := Sr.Def.mk (Sr.ok_isCounter FIc rAL rB) bIc kIc (PySem.W.mg_of X G aIc)
  have rIf := Sr.Def.mk (Sr.ok_isField FIf Dx RXx rW rB rIt) bIf kIf (PySem.W.mg_of X G aIf)
  have rFc := Sr.Def.mk (Sr.ok_count FFc NVx RXx (PySem.W.mg_none_of X G z_len) rIk) bFc kFc (PySem.W.mg_of X G aFc)
  have rIr := Sr.Def.mk (Sr.ok_isRec FIr Dx RXx (PySem.W.mg_none_of X G z_len) (PySem.W.mg_none_of X G z_all) (PySem.W.mg_none_of X G z_zip) rAL rB rIk rIc rIf rFc) bIr kIr (PySem.W.mg_of X G aIr)
  have dMP := Sg.MDef.mk (ok_pagesM FMP T Y gB) bMP mMP
  have dMS := Sg.MDef.mk (ok_stateM FMS T Y gFe dMP) bMS mMS
  have dMB := Sg.MDef.mk (ok_blksM FMB T Y dMS) bMB mMB
  have dMF := Sg.MDef.mk (ok_freeM FMF Y dMB) bMF mMF
  have dMC := Sg.MDef.mk (ok_closedM FMC Y dMB) bMC mMC
  have dMO := Sg.MDef.mk (ok_roomM FMO T Y gFe dMP dMB dMF) bMO mMO
  have dMN := Sg.MDef.mk (ok_nextM FMN T Y dMB dMF dWe) bMN mMN
  have dMA := Sg.MDef.mk (ok_appendM FMA T Y Z gFe dMO dMN dPr) bMA mMA
  have dME := Sg.MDef.mk (ok_eraseM FME T Y dMS dEr) bME mME
  have gRb := Sg.Def.mk (ok_readBlk FRb T dRd) bRb kRb (PySem.W.mg_of X G aRb)
  have GMI := ok_linit FMI T Y Z gRb dMB
  have gOn := Sg.Def.mk (ok_once (P := l.prog) (wd := w) (base := base) FOn Y) bOn kOn (PySem.W.mg_of X G aOn)
  have gIr := Sg.Def.mk rIr.ok rIr.bd rIr.kp rIr.mg
  have dMR := Sg.MDef.mk (ok_recordsM (C := C) FMR Y gOn gIr) bMR mMR
  have dMT := Sg.MDef.mk (ok_topM FMT Y dMR) bMT mMT
  have dMH := Sg.MDef.mk (ok_holdersM (P := l.prog) (wd := w) (base := base) FMH T Y) bMH mMH
  have gT := Sg.Def.mk (ok_tape (P := l.prog) (w := w) (base := base) FT B) bT kT (PySem.W.mg_of X G aT)
  have gA := Sg.Def.mk (ok_at (P := l.prog) (w := w) (base := base) FA B) bA kA (PySem.W.mg_of X G aA)
  have gUs := Sg.Def.mk (ok_used (P := l.prog) (wd := w) (base := base) FUs T) bUs kUs (PySem.W.mg_of X G aUs)
  have gLr := Sg.Def.mk (ok_lrecord (P := l.prog) (wd := w) (base := base) (mg := mg) FLr) bLr kLr (PySem.W.mg_of X G aLr)
  have gLs := Sg.Def.mk (ok_lstate FLs gUs) bLs kLs (PySem.W.mg_of X G aLs)
  have gLo := Sg.Def.mk (ok_lroom FLo T gUs gLs) bLo kLo (PySem.W.mg_of X G aLo)
  have gTa := Sg.Def.mk (ok_target FTa T gLs) bTa kTa (PySem.W.mg_of X G aTa)
  have gFo := Sg.Def.mk (ok_found (P := l.prog) (wd := w) (base := base) FFo T Y) bFo kFo (PySem.W.mg_of X G aFo)
  have gEl := Sg.Def.mk (ok_else (P := l.prog) (wd := w) (base := base) FEl T) bEl kEl (PySem.W.mg_of X G aEl)
  have gSp := Sg.Def.mk (ok_spare FSp T gLs gEl) bSp kSp (PySem.W.mg_of X G aSp)
  have gCh := Sg.Def.mk (ok_choose FCh T gLs gEl gSp gFo gLo gLr) bCh kCh (PySem.W.mg_of X G aCh)
  have gOr := Sg.Def.mk (ok_orders FOr T gFo) bOr kOr (PySem.W.mg_of X G aOr)
  have gDo := Sg.Def.mk (ok_do FDo T Y eP dMA dME) bDo kDo (PySem.W.mg_of X G aDo)
  have gAy := Sg.Def.mk (ok_apply FAy T gUs) bAy kAy (PySem.W.mg_of X G aAy)
  have gSa := Sg.Def.mk (ok_same FSa T Y dMS dMP dMF dMC dMO gLs gLo) bSa kSa (PySem.W.mg_of X G aSa)
  have gRx := Sg.Def.mk (ok_reads FRx T Y (PySem.W.mg_none_of X G z_max) gFo dMR dMT dMH) bRx kRx (PySem.W.mg_of X G aRx)
  exact ok_law FL T Y (PySem.W.mg_none_of X G z_max) gT gA M GI bI ML GMI bMI dFl dCu gCh gTa gDo gAy gSa gOr gRx dIg
/-- the law row's walk: at most 63 items -/
theorem walk_law {l : PySem.W.OpenLaw} {q : Program} {loose : List Str} {XP : (Str → Option Value) → Heap → Prop} {YP : World → Heap → Prop} {d : DefRec} {K : Params → PySem.W.Frag} (hn : l.most = some 63) (hdf : d.params.defaults = [])
    (hY : ∀ (w : World) (h : Heap), YP w h → (K w.params).In h)
    (F : ∀ (w : World) (mg : Str → Option Value) (fa : Addr) (h : Heap), (K w.params).In h → h.Ns mainGlobals mg → mg d.name = some (.ref fa) →
      ∃ fd : FuncData, (∀ (s : Shared) (u : Value), BindsTo s fd ⟨[u], []⟩ [("script", u)]) ∧ ∀ base : Heap, (K w.params).In base → base.Ns mainGlobals mg → FnOk l.prog w (K w.params) mg base CX0 10 fa fd ["script"] (spLaw (K w.params))) :
    PySem.W.WalkO q loose XP YP l.row.toRowW d [] (fun f vs => PySem.call f vs) :=
  L2.walk_of (n := 63) (k := 10) (x := "script") (CX := fun _ => CX0) (sp := fun w => spLaw (K w.params)) hn (by decide) hdf ⟨rfl, by decide, by decide⟩ hY F (fun _ _ a ns hl _ hS => ⟨a, ns, rfl, hS, hl, fun _ => rfl⟩) fun _ _ _ _ _ z => z
end Sg

set_option Elab.async false
set_option linter.all false
set_option maxRecDepth 100000
set_option maxHeartbeats 8000000
open PySem PySem.W PyProof.Rows
set_option maxRecDepth 100000 in
set_option maxHeartbeats 0 in
theorem PySem.Challenge.cw_spindlegate_k07_log_after_cuts_holds : PySem.Challenge.rw_spindlegate_k07_log_after_cuts.Holds := by
  w_on; o_law; k_head; (case hw => w_witness2)
  k_fill
  refine Sg.walk_law (l := PySem.Challenge.rw_spindlegate_k07_log_after_cuts) rfl rfl (fun w h Y => PySem.W.kIn_of Y) ?F
  case F =>
    intro w mg fa h KX G hmg
    refine' Sg.all_mk KX G hmg ?aN_ ?aS_ ?xNe ?kNe ?bNe ?tNe ?sNe ?iSe ?bSe ?tSe ?aC ?aCL ?aP_ ?xPe ?kPe ?bPe ?tPe ?sPe ?aB_ ?xBe ?kBe ?bBe ?tBe ?sBe ?aR_ ?xRe ?kRe ?bRe ?tRe ?sRe ?iPe ?sPPe ?pgF ?hdF ?poF ?saF ?mkF ?kcF ?pgL ?hdL ?poL ?saL ?mkL ?kcL ?n1 ?n2 ?n3 ?n4 ?n5 ?n6 ?m1 ?m2 ?gTORN ?gPAGES ?gMIN_BLOCKS ?gMAX_BLOCKS ?gMOST_OPERATIONS ?gHEAD ?gHOSTS ?gNAMESPACES ?gPLACES ?gKINDS ?gFIELDS ?lKINDS ?lFIELDS ?kFIELDS ?nT0 ?lT0 ?nT1 ?lT1 ?nT2 ?lT2 ?nT3 ?lT3 ?nT4 ?lT4 ?nT5 ?lT5 ?nT6 ?lT6 ?nT7 ?lT7 ?nT8 ?lT8 ?nT9 ?lT9 ?nT10 ?lT10 ?nT11 ?lT11 ?z_isinstance ?z_int ?z_bool ?z_str ?z_tuple ?z_list ?z_len ?z_all ?z_zip ?z_range ?z_abs ?z_sum ?z_min ?z_sorted ?z_max ?aI ?iI ?lI ?cI ?kI ?aRd ?iRd ?lRd ?cRd ?kRd ?aPr ?iPr ?lPr ?cPr ?kPr ?aEr ?iEr ?lEr ?cEr ?kEr ?aWe ?iWe ?lWe ?cWe ?kWe ?aFl ?iFl ?lFl ?cFl ?kFl ?aCu ?iCu ?lCu ?cCu ?kCu ?aIg ?iIg ?lIg ?cIg ?kIg ?aKb ?iKb ?lKb ?cKb ?kKb ?aKp ?iKp ?lKp ?cKp ?kKp ?aPo ?iPo ?lPo ?cPo ?kPo ?aOp ?iOp ?lOp ?cOp ?kOp ?aCa ?iCa ?lCa ?cCa ?kCa ?aMI ?iMI ?lMI ?cMI ?kMI ?aMA ?iMA ?lMA ?cMA ?kMA ?aMO ?iMO ?lMO ?cMO ?kMO ?aME ?iME ?lME ?cME ?kME ?aMS ?iMS ?lMS ?cMS ?kMS ?aMF ?iMF ?lMF ?cMF ?kMF ?aMC ?iMC ?lMC ?cMC ?kMC ?aMP ?iMP ?lMP ?cMP ?kMP ?aMR ?iMR ?lMR ?cMR ?kMR ?aMT ?iMT ?lMT ?cMT ?kMT ?aMH ?iMH ?lMH ?cMH ?kMH ?aMB ?iMB ?lMB ?cMB ?kMB ?aMN ?iMN ?lMN ?cMN ?kMN ?aW ?lW ?cW ?kW ?aAL ?lAL ?cAL ?kAL ?aB ?lB ?cB ?kB ?aIr ?lIr ?cIr ?kIr ?aFc ?lFc ?cFc ?kFc ?aIk ?lIk ?cIk ?kIk ?aIc ?lIc ?cIc ?kIc ?aIf ?lIf ?cIf ?kIf ?aIt ?lIt ?cIt ?kIt ?aFe ?lFe ?cFe ?kFe ?aOn ?lOn ?cOn ?kOn ?aRb ?lRb ?cRb ?kRb ?aT ?lT ?cT ?kT ?aA ?lA ?cA ?kA ?aUs ?lUs ?cUs ?kUs ?aLr ?lLr ?cLr ?kLr ?aLs ?lLs ?cLs ?kLs ?aLo ?lLo ?cLo ?kLo ?aTa ?lTa ?cTa ?kTa ?aFo ?lFo ?cFo ?kFo ?aSa ?lSa ?cSa ?kSa ?aRx ?lRx ?cRx ?kRx ?aDo ?lDo ?cDo ?kDo ?aAy ?lAy ?cAy ?kAy ?aSp ?lSp ?cSp ?kSp ?aEl ?lEl ?cEl ?kEl ?aCh ?lCh ?cCh ?kCh ?aOr ?lOr ?cOr ?kOr ?aL ?lL ?cL ?kL
    (case aN_ => k_is)
    (case aS_ => k_is)
    (case xNe => k_exc)
    (case kNe => k_is)
    (case bNe => k_is)
    (case tNe => k_is)
    (case sNe => first | rfl | k_is)
    (case iSe => k_is)
    (case bSe => k_is)
    (case tSe => k_is)
    (case aC => k_is)
    (case aCL => k_is)
    (case aP_ => k_is)
    (case xPe => k_exc)
    (case kPe => k_is)
    (case bPe => k_is)
    (case tPe => k_is)
    (case sPe => first | rfl | k_is)
    (case aB_ => k_is)
    (case xBe => k_exc)
    (case kBe => k_is)
    (case bBe => k_is)
    (case tBe => k_is)
    (case sBe => first | rfl | k_is)
    (case aR_ => k_is)
    (case xRe => k_exc)
    (case kRe => k_is)
    (case bRe => k_is)
    (case tRe => k_is)
    (case sRe => first | rfl | k_is)
    (case iPe => k_is)
    (case sPPe => first | rfl | k_is)
    (case pgF => k_is)
    (case hdF => k_is)
    (case poF => k_is)
    (case saF => k_is)
    (case mkF => k_is)
    (case kcF => k_is)
    (case pgL => k_is)
    (case hdL => k_is)
    (case poL => k_is)
    (case saL => k_is)
    (case mkL => k_is)
    (case kcL => k_is)
    (case n1 => k_is)
    (case n2 => k_is)
    (case n3 => k_is)
    (case n4 => k_is)
    (case n5 => k_is)
    (case n6 => k_is)
    (case m1 => k_is)
    (case m2 => k_is)
    (case gTORN => k_is)
    (case gPAGES => k_is)
    (case gMIN_BLOCKS => k_is)
    (case gMAX_BLOCKS => k_is)
    (case gMOST_OPERATIONS => k_is)
    (case gHEAD => k_is)
    (case gHOSTS => k_is)
    (case gNAMESPACES => k_is)
    (case gPLACES => k_is)
    (case gKINDS => k_is)
    (case gFIELDS => k_is)
    (case lKINDS => k_is)
    (case lFIELDS => k_is)
    (case kFIELDS => first | k_is | (repeat' (first | exact trivial | refine ⟨⟨_, _, rfl, rfl⟩, ?_⟩)))
    (case nT0 => k_is)
    (case lT0 => k_is)
    (case nT1 => k_is)
    (case lT1 => k_is)
    (case nT2 => k_is)
    (case lT2 => k_is)
    (case nT3 => k_is)
    (case lT3 => k_is)
    (case nT4 => k_is)
    (case lT4 => k_is)
    (case nT5 => k_is)
    (case lT5 => k_is)
    (case nT6 => k_is)
    (case lT6 => k_is)
    (case nT7 => k_is)
    (case lT7 => k_is)
    (case nT8 => k_is)
    (case lT8 => k_is)
    (case nT9 => k_is)
    (case lT9 => k_is)
    (case nT10 => k_is)
    (case lT10 => k_is)
    (case nT11 => k_is)
    (case lT11 => k_is)
    (case z_isinstance => k_is)
    (case z_int => k_is)
    (case z_bool => k_is)
    (case z_str => k_is)
    (case z_tuple => k_is)
    (case z_list => k_is)
    (case z_len => k_is)
    (case z_all => k_is)
    (case z_zip => k_is)
    (case z_range => k_is)
    (case z_abs => k_is)
    (case z_sum => k_is)
    (case z_min => k_is)
    (case z_sorted => k_is)
    (case z_max => k_is)
    (case aI => k_is)
    (case iI => k_is)
    (case lI => k_is)
    (case cI => k_is)
    (case kI => k_is)
    (case aRd => k_is)
    (case iRd => k_is)
    (case lRd => k_is)
    (case cRd => k_is)
    (case kRd => k_is)
    (case aPr => k_is)
    (case iPr => k_is)
    (case lPr => k_is)
    (case cPr => k_is)
    (case kPr => k_is)
    (case aEr => k_is)
    (case iEr => k_is)
    (case lEr => k_is)
    (case cEr => k_is)
    (case kEr => k_is)
    (case aWe => k_is)
    (case iWe => k_is)
    (case lWe => k_is)
    (case cWe => k_is)
    (case kWe => k_is)
    (case aFl => k_is)
    (case iFl => k_is)
    (case lFl => k_is)
    (case cFl => k_is)
    (case kFl => k_is)
    (case aCu => k_is)
    (case iCu => k_is)
    (case lCu => k_is)
    (case cCu => k_is)
    (case kCu => k_is)
    (case aIg => k_is)
    (case iIg => k_is)
    (case lIg => k_is)
    (case cIg => k_is)
    (case kIg => k_is)
    (case aKb => k_is)
    (case iKb => k_is)
    (case lKb => k_is)
    (case cKb => k_is)
    (case kKb => k_is)
    (case aKp => k_is)
    (case iKp => k_is)
    (case lKp => k_is)
    (case cKp => k_is)
    (case kKp => k_is)
    (case aPo => k_is)
    (case iPo => k_is)
    (case lPo => k_is)
    (case cPo => k_is)
    (case kPo => k_is)
    (case aOp => k_is)
    (case iOp => k_is)
    (case lOp => k_is)
    (case cOp => k_is)
    (case kOp => k_is)
    (case aCa => k_is)
    (case iCa => k_is)
    (case lCa => k_is)
    (case cCa => k_is)
    (case kCa => k_is)
    (case aMI => k_is)
    (case iMI => k_is)
    (case lMI => k_is)
    (case cMI => k_is)
    (case kMI => k_is)
    (case aMA => k_is)
    (case iMA => k_is)
    (case lMA => k_is)
    (case cMA => k_is)
    (case kMA => k_is)
    (case aMO => k_is)
    (case iMO => k_is)
    (case lMO => k_is)
    (case cMO => k_is)
    (case kMO => k_is)
    (case aME => k_is)
    (case iME => k_is)
    (case lME => k_is)
    (case cME => k_is)
    (case kME => k_is)
    (case aMS => k_is)
    (case iMS => k_is)
    (case lMS => k_is)
    (case cMS => k_is)
    (case kMS => k_is)
    (case aMF => k_is)
    (case iMF => k_is)
    (case lMF => k_is)
    (case cMF => k_is)
    (case kMF => k_is)
    (case aMC => k_is)
    (case iMC => k_is)
    (case lMC => k_is)
    (case cMC => k_is)
    (case kMC => k_is)
    (case aMP => k_is)
    (case iMP => k_is)
    (case lMP => k_is)
    (case cMP => k_is)
    (case kMP => k_is)
    (case aMR => k_is)
    (case iMR => k_is)
    (case lMR => k_is)
    (case cMR => k_is)
    (case kMR => k_is)
    (case aMT => k_is)
    (case iMT => k_is)
    (case lMT => k_is)
    (case cMT => k_is)
    (case kMT => k_is)
    (case aMH => k_is)
    (case iMH => k_is)
    (case lMH => k_is)
    (case cMH => k_is)
    (case kMH => k_is)
    (case aMB => k_is)
    (case iMB => k_is)
    (case lMB => k_is)
    (case cMB => k_is)
    (case kMB => k_is)
    (case aMN => k_is)
    (case iMN => k_is)
    (case lMN => k_is)
    (case cMN => k_is)
    (case kMN => k_is)
    (case aW => k_is)
    (case lW => k_is)
    (case cW => k_is)
    (case kW => k_is)
    (case aAL => k_is)
    (case lAL => k_is)
    (case cAL => k_is)
    (case kAL => k_is)
    (case aB => k_is)
    (case lB => k_is)
    (case cB => k_is)
    (case kB => k_is)
    (case aIr => k_is)
    (case lIr => k_is)
    (case cIr => k_is)
    (case kIr => k_is)
    (case aFc => k_is)
    (case lFc => k_is)
    (case cFc => k_is)
    (case kFc => k_is)
    (case aIk => k_is)
    (case lIk => k_is)
    (case cIk => k_is)
    (case kIk => k_is)
    (case aIc => k_is)
    (case lIc => k_is)
    (case cIc => k_is)
    (case kIc => k_is)
    (case aIf => k_is)
    (case lIf => k_is)
    (case cIf => k_is)
    (case kIf => k_is)
    (case aIt => k_is)
    (case lIt => k_is)
    (case cIt => k_is)
    (case kIt => k_is)
    (case aFe => k_is)
    (case lFe => k_is)
    (case cFe => k_is)
    (case kFe => k_is)
    (case aOn => k_is)
    (case lOn => k_is)
    (case cOn => k_is)
    (case kOn => k_is)
    (case aRb => k_is)
    (case lRb => k_is)
    (case cRb => k_is)
    (case kRb => k_is)
    (case aT => k_is)
    (case lT => k_is)
    (case cT => k_is)
    (case kT => k_is)
    (case aA => k_is)
    (case lA => k_is)
    (case cA => k_is)
    (case kA => k_is)
    (case aUs => k_is)
    (case lUs => k_is)
    (case cUs => k_is)
    (case kUs => k_is)
    (case aLr => k_is)
    (case lLr => k_is)
    (case cLr => k_is)
    (case kLr => k_is)
    (case aLs => k_is)
    (case lLs => k_is)
    (case cLs => k_is)
    (case kLs => k_is)
    (case aLo => k_is)
    (case lLo => k_is)
    (case cLo => k_is)
    (case kLo => k_is)
    (case aTa => k_is)
    (case lTa => k_is)
    (case cTa => k_is)
    (case kTa => k_is)
    (case aFo => k_is)
    (case lFo => k_is)
    (case cFo => k_is)
    (case kFo => k_is)
    (case aSa => k_is)
    (case lSa => k_is)
    (case cSa => k_is)
    (case kSa => k_is)
    (case aRx => k_is)
    (case lRx => k_is)
    (case cRx => k_is)
    (case kRx => k_is)
    (case aDo => k_is)
    (case lDo => k_is)
    (case cDo => k_is)
    (case kDo => k_is)
    (case aAy => k_is)
    (case lAy => k_is)
    (case cAy => k_is)
    (case kAy => k_is)
    (case aSp => k_is)
    (case lSp => k_is)
    (case cSp => k_is)
    (case kSp => k_is)
    (case aEl => k_is)
    (case lEl => k_is)
    (case cEl => k_is)
    (case kEl => k_is)
    (case aCh => k_is)
    (case lCh => k_is)
    (case cCh => k_is)
    (case kCh => k_is)
    (case aOr => k_is)
    (case lOr => k_is)
    (case cOr => k_is)
    (case kOr => k_is)
    (case aL => k_is)
    (case lL => k_is)
    (case cL => k_is)
    (case kL => k_is)

