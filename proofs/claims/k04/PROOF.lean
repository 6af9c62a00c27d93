import PyProof.Rows.All
import Wide.All
import OpenK.AllK
import Wide.FinOn
import HandS.Base
import HandS.Call
import HandS.List
import HandS.Comp
import HandS.Ends
import HandS.Dict
import HandS.Iter
import HandS.Text
import HandS.Words
import HandS.WordsList
import HandS.Steps
import HandS.Evl
import HandS.Exc
import HandS.TryOnly
import HandS.ExcOwn
import HandS.WordsExc
import HandS.IsInst
import HandS.ExcIs
import HandS.Deep
import HandS.More
import HandS.WrittenGet
import KE.KIndexOf
import HandS.Zip
import HandS.Star
import PySem.Challenge.RW_spindlegate_k04_records
set_option Elab.async false
set_option linter.all false
set_option maxRecDepth 100000
set_option maxHeartbeats 4000000
/-! General lemmas: readings of expressions, small heaps, lists. -/
namespace Sg
open PySem PySem.Spec PyProof.Rows L2
section
variable {σ : L2.St} {H : Hp} {ta tb te : TE} {i j : Int} {K : PySem.W.Frag} {x y z : V}
theorem v0 {g : Int → Int → V} (ha : Val ta σ H (.int i)) (hb : Val tb σ H (.int j)) : Val (tOp (rI0 g) ta tb) σ H (g i j) := val_op ha hb fun _ q => ⟨i, j, rfl, rfl, q⟩
theorem vc {C : Int → Int → Prop} {g : Int → Int → V} (ha : Val ta σ H (.int i)) (hb : Val tb σ H (.int j)) (hc : C i j) : Val (tOp (rI C g) ta tb) σ H (g i j) := val_op ha hb fun _ q => ⟨i, j, rfl, rfl, hc, q⟩
theorem vEq (ha : Val ta σ H x) (hb : Val tb σ H y) (hs : scal x y = true) : Val (tOp rEq ta tb) σ H (.bl (decide (x = y))) := val_op ha hb fun _ q => ⟨hs, q⟩
theorem vNe (ha : Val ta σ H x) (hb : Val tb σ H y) (hs : scal x y = true) : Val (tOp rNe ta tb) σ H (.bl (!decide (x = y))) := val_op ha hb fun _ q => ⟨hs, q⟩
theorem vIx {p : Addr} {xs : List V} {n : Nat} (ha : Val ta σ H (.ref p)) (hb : Val tb σ H (.int (n : Int))) (hp : SqL K H p xs) (hn : xs[n]? = some z) : Val (tOp (rIxL K) ta tb) σ H z :=
  val_op ha hb fun _ q => ⟨p, xs, _, z, rfl, rfl, hp, atI_nat hn, q⟩
theorem vIs {v w : V} (h : Val te σ H v) (e : v = w) : Val te σ H w := e ▸ h
/-- a built-in's call of one argument -/
theorem vCB1 {r : List V → Hp → VK → Prop} (ha : Val ta σ H x) (hr : ∀ Q : VK, Q z H → r [x] H Q) : Val (tCB r (tCons ta tNil)) σ H z := fun Q q => ha _ (hr Q q)
theorem vCB2 {r : List V → Hp → VK → Prop} (ha : Val ta σ H x) (hb : Val tb σ H y) (hr : ∀ Q : VK, Q z H → r [x, y] H Q) : Val (tCB r (tCons ta (tCons tb tNil))) σ H z := fun Q q => ha _ (hb _ (hr Q q))
theorem aTest {b : Bool} (h : Val te σ H (.bl b)) : Ans (tTest te) σ H b := fun Q q => h _ ⟨b, rfl, q⟩
end
theorem map_get {α β : Type} {f : α → β} {l : List α} {i : Nat} {y : β} (h : (l.map f)[i]? = some y) : ∃ z, l[i]? = some z ∧ y = f z := by
  rw [List.getElem?_map] at h
  cases e : l[i]? with
  | none =>
    rw [e] at h
    cases h
  | some z =>
    rw [e] at h
    exact ⟨z, rfl, (Option.some.inj h).symm⟩
theorem get_map {α β : Type} {f : α → β} {l : List α} {i : Nat} {z : α} (h : l[i]? = some z) : (l.map f)[i]? = some (f z) := by rw [List.getElem?_map, h]; rfl
theorem upd_two {H : Hp} {a : Addr} {o u : HO} : upd (upd H a o) a u = upd H a u := upd_upd
theorem same_new {H : Hp} {p : Addr} {o : HO} (h : H p = Option.none) : Same H (upd H p o) := fun b u e => by
  rw [upd_ne (ne_of_none e h)]
  exact e
end Sg

set_option Elab.async false
set_option linter.all false
set_option maxRecDepth 100000
set_option maxHeartbeats 4000000
namespace Sg
open PySem PySem.Spec PyProof.Rows L2
/-! ### rules of our own -/
section
variable {X : Cx}
/-- C(), an own exception without an __init__ of its own -/
theorem pmk_own0 {C : Addr} {bmB : List Value} {B newId initId : String} {x : Str} {p pos : Pos} (F : ExcBaseFacts B newId initId bmB) (q : PySem.W.excIn X.K C bmB newId = true) (gC : X.mg x = some (.ref C))
    (kC : PySem.W.keepIn X.K (.ref C) = true) (r : Raises X (.ref C)) (hg : Gl X x) (hdb : (x == ("__debug__" : Str)) = false := by decide) :
    PMk X (.Call (.Name x p) [] [] pos) (fun _ H Q => Q (.ref C) none H) := by
  intro pins s σ H Q I h
  refine wpAny_Call_Name_kw (ld_glob I hg gC ?_ hdb)
  refine PySem.W.callWith_K0 I.kIn kC ?_
  obtain ⟨bm, N, nm, qn, bs, hdct, sn, sub, ab, col, dd, k0, k1, k2, k3, k5, mN, hC, hN, hni, T⟩ := exc_obj I.kIn q
  exact wpAny_call_exc_subT F T hC hN hni (fun h' e hm => mk_of I hm r h (I.hok.gone hm.new)) (Nat.zero_le _)
/-- o[i] of a list, by values, a place in bounds from the left -/
def rGetL (K : PySem.W.Frag) : V → V → Hp → VK → Prop := fun o i H Q => ∃ p xs n v, o = .ref p ∧ i = .int ((n : Nat) : Int) ∧ SqL K H p xs ∧ xs[n]? = some v ∧ Q v H
theorem get_list : PGet X (rGetL X.K) := by
  intro pins s σ H o i ov iv Q I ro ri h
  obtain ⟨p, xs, n, v, rfl, rfl, hq, he, q⟩ := h
  cases ro
  obtain ⟨t, rfl⟩ := ri
  obtain ⟨its, r, pl, hz⟩ := I.list hq
  obtain ⟨w, ew, rw'⟩ := r.get he
  have hl := r.length
  have hn := line63
  have hb := (List.getElem?_eq_some_iff.mp he).1
  exact wpAny_getItem_list pl.isList (by omega) (by omega) (by simpa using ew) ⟨v, H, I, rw', q⟩
/-- l.count(y): how many are equal, data of any depth -/
def rCountD (K : PySem.W.Frag) : V → List V → Hp → VK → Prop := fun x xs H Q => ∃ (a : Addr) (y : V) (d : PyData) (ds : List PyData), x = V.ref a ∧ xs = [y] ∧ Dp K H (V.ref a) (.list ds) ∧ Dp K H y d ∧
  SeqAt.shaped (.list ds) = true ∧ SeqAt.shaped d = true ∧ Q (.int (ds.countP (fun z => PyData.eqv z d) : Nat)) H
theorem mt_countD (hu : X.A.units + 65 < cLine) : MtR X "list.count" (rCountD X.K) := by
  intro pins s σ H x xs v us Q I rx rxs h
  obtain ⟨a, y, d, ds, rfl, rfl, hl, hy, sl, sd, q⟩ := h
  cases rx
  cases rxs with
  | cons ry rt =>
    rename_i uy ut
    cases rt
    obtain ⟨bs, r1⟩ := Dp.reads I d y uy hy ry
    have hxs : PyData.canLayAll0 ds = true := SeqAt.canLay_of_shaped sl
    have hroom : X.A.units + 1 + min (PyData.depthAll ds) d.depth < cLine := room_in_shaped sd hu
    cases hl with
    | lst hs ha =>
      obtain ⟨its, rv, ⟨⟨cls, dd, data, sls⟩, n, ho, hc, hdn, hdt⟩, hlen⟩ := I.list hs
      simp only at hc hdt
      subst hc hdt
      obtain ⟨as, h4⟩ := Dp.readsAll I ds _ its ha rv
      have hmap : its.map (SeqAt.readOf s.heap) = ds := SeqAt.readsAll_map ds its as hxs h4
      refine call_meets PySem.F.slot_list_count ⟨_, ho, rfl⟩ PySem.F.entry_list_count (PySem.F.args_list_count_2 _ _)
        (SeqAt.list_countAt a its.toArray n dd sls uy (fun u => PyData.eqv (SeqAt.readOf s.heap u) d)) ⟨ho, SeqAt.items_eqAt (vs := its.toArray) (show ReadsAll s.heap its.toArray.toList ds as from h4) r1 hxs (SeqAt.canLay_of_shaped sd) hroom, ?_⟩
      have ec : its.toArray.toList.countP (fun u => PyData.eqv (SeqAt.readOf s.heap u) d) = ds.countP (fun z => PyData.eqv z d) := by
        rw [← hmap, List.countP_map]
        rfl
      refine ⟨.int (ds.countP (fun z => PyData.eqv z d) : Nat), H, I.tok _, ⟨s.toks, ?_⟩, q⟩
      show Value.int ((its.toArray.toList.countP (fun u => PyData.eqv (SeqAt.readOf s.heap u) d) : Nat) : Int) s.toks = _
      rw [ec]
/-- isinstance(e, c), e the exception that the suite holds, whatever its class is -/
def rIsX (K : PySem.W.Frag) (a : Addr) (cls : Value) (d : Option Addr) : List V → Hp → VK → Prop := fun xs H Q => ∃ (D : Addr) (c : V) (cv : Value) (b : Bool), cls = .ref D ∧ d = none ∧ ExcC K D ∧ xs = [.ref a, c] ∧ (∀ u, RelV c u → u = cv) ∧ PySem.W.kitOne K (.ref D) cv = some b ∧ Q (.bl b) H
theorem call_isX {a : Addr} {oe : Obj} {cls : Value} {d : Option Addr} {pn : List (Addr × Obj)} (hz : Zc cls d oe) (hf : ∃ vs, oe.data = .fields vs) : CallR (X.suite a ((a, oe) :: pn)) (.builtin "isinstance") (rIsX X.K a cls d) := by
  intro pins s σ H xs us Q I r h
  obtain ⟨D, c, cv, b, rfl, rfl, C, rfl, hcv, e, q⟩ := h
  exact call_isE C hz hf pins s σ H _ us Q I r ⟨c, cv, b, rfl, hcv, e, q⟩
end
/-- an exception of a subclass is what the clause names -/
theorem exm_sub {K : PySem.W.Frag} {S T : Addr} (h1 : PySem.W.subIn K (.ref T) (.type "BaseException") = some true) (h2 : PySem.W.isClsIn K T = true) (h3 : PySem.W.typeIn K (.ref T) = some (.type "type")) (h4 : PySem.W.subIn K (.ref S) (.ref T) = some true) :
    PySem.W.exmOne K (.ref S) (.ref T) = some true := by
  have e1 : (PySem.W.subIn K (.ref T) (.type "BaseException") == some true) = true := by rw [h1] <;> rfl
  have e2 : ((PySem.W.clsIn K T).isSome && PySem.W.typeIn K (.ref T) == some (.type "type")) = true := by
    have h2' : (PySem.W.clsIn K T).isSome = true := h2
    rw [h2', h3] <;> rfl
  show (if (PySem.W.subIn K (.ref T) (.type "BaseException") == some true) = true then (if ((PySem.W.clsIn K T).isSome && PySem.W.typeIn K (.ref T) == some (.type "type")) = true then PySem.W.subIn K (.ref S) (.ref T) else none) else none) = some true
  rw [if_pos e1, if_pos e2]
  exact h4
end Sg

set_option Elab.async false
set_option linter.all false
set_option maxRecDepth 100000
set_option maxHeartbeats 4000000
namespace Sg
open PySem PySem.Spec PyProof.Rows L2
def top (i : Nat) : Stmt := PySem.Challenge.pw_spindlegate_k04_records.main.body.getD i (.Pass ⟨0, 0, 0, 0⟩)
abbrev sTape : Stmt := top 24
abbrev sAt : Stmt := top 25
/-! ### the tape -/
def TapeOk (ts : List Int) : Prop := ∀ t ∈ ts, 0 ≤ t ∧ t < 1000
theorem TapeOk.nil : TapeOk [] := fun t h => by cases h
theorem TapeOk.snoc {ts : List Int} {t : Int} (h : TapeOk ts) (h0 : 0 ≤ t) (h1 : t < 1000) : TapeOk (ts ++ [t]) := fun u hu => by
  rcases List.mem_append.mp hu with a | a
  · exact h u a
  · cases List.mem_singleton.mp a
    exact ⟨h0, h1⟩
theorem TapeOk.at {ts : List Int} (h : TapeOk ts) (k : Nat) : 0 ≤ ts.getD k 0 ∧ ts.getD k 0 < 1000 := by
  rw [List.getD_eq_getElem?_getD]
  cases e : ts[k]? with
  | none => exact ⟨by decide, by decide⟩
  | some t => exact h t (List.mem_of_getElem? e)
/-- what is built-in of the names that the law's helpers use -/
structure Blt (mg : Str → Option Value) : Prop where
  range : mg "range" = none
  len : mg "len" = none
  abs : mg "abs" = none
  int : mg "int" = none
def spTape (K : PySem.W.Frag) : Sp := fun vs H Q _ => ∃ (a : Addr) (ns : List Int), vs = [.ref a] ∧ SqL K H a (ns.map V.int) ∧ ns.length ≤ 63 ∧
  ∀ (p : Addr) (ts : List Int), H p = none → TapeOk ts → ts.length ≤ 3780 → Q (.ref p) (upd H p (.lst (ts.map V.int)))
def spAt (K : PySem.W.Frag) : Sp := fun vs H Q _ => ∃ (p : Addr) (ts : List Int) (k : Nat), vs = [.ref p, .int (k : Int)] ∧ SqL K H p (ts.map V.int) ∧ Q (.int (ts.getD k 0)) H
section
variable {P : Program} {w : World} {K : PySem.W.Frag} {mg : Str → Option Value} {base : Heap} {f : Addr} {fd : FuncData}
theorem scTape : FnScope ["script", "tape", "k", "value", "step"] ["script"] (defScope sTape) := ⟨rfl, rfl, rfl, by decide +kernel, rfl, by decide +kernel, by decide +kernel⟩
theorem snocT {H : Hp} {p : Addr} {ts : List Int} {t : Int} : upd (upd H p (.lst (ts.map V.int))) p (.lst (ts.map V.int ++ [V.int t])) = upd H p (.lst ((ts ++ [t]).map V.int)) := by
  rw [upd_upd, List.map_append]; rfl
theorem ok_tape (F : Fun K "_law_tape" "_law_tape" sTape f fd) (B : Blt mg) : FnOk P w K mg base CX0 1 f fd ["script"] (spTape K) := by
  refine F.ok scTape (fun vs H Q E h => ?_) (fun cdv A outer s H vs Q E hr h => ?_)
  · obtain ⟨a, ns, rfl, _⟩ := h
    rfl
  · obtain ⟨a, ns, rfl, hS, hlen, k⟩ := h
    refine ⟨_, pss_cons (ps_set (i := 1) scTape.nd rfl (Or.inl rfl) (pe_lst pa_nil))
      (pss_cons (ps_for PassesOwn.never rfl (pi_range1 (by rfl) B.range (pa_cons (pe_callB call_len_seq (by rfl) B.len PySem.boot_len (pa_cons (pv 0) pa_nil)) pa_nil)) (pg_name (i := 2) scTape.nd rfl (Or.inl rfl))
        (pss_cons (ps_set (i := 3) scTape.nd rfl (Or.inl rfl) (pe_callB call_abs (by rfl) B.abs (by decide +kernel) (pa_cons (pe_callTy call_int1 (by rfl) B.int (by decide +kernel) (pa_cons (pe_ix ix_list (pv 0) (pv 2) (fun _ _ => rfl)) pa_nil)) pa_nil)))
        (pss_one (ps_if (pt_cmpR op_ge (pv 3) (pe_op op_pow pe_int pe_int) (nomark _))
          (pss_one (ps_for PassesOwn.never rfl (pi_range1 (by rfl) B.range (pa_cons pe_int pa_nil)) (pg_name (i := 4) scTape.nd rfl (Or.inl rfl))
            (pss_one (ps_if (pt_cmpR op_gt (pv 3) pe_int (nomark _))
              (pss_cons (ps_expr (pe_bm PySem.F.plainAttrs_list PySem.F.slot_list_append PySem.F.type_list_append mt_append (pv 1) (pa_cons (pe_op op_mod (pv 3) pe_int) pa_nil)))
                (pss_one (ps_set (i := 3) scTape.nd rfl (Or.inl rfl) (pe_op op_fdiv (pv 3) pe_int)))) pss_nil))))
          (pss_one (ps_for PassesOwn.never rfl (pi_range1 (by rfl) B.range (pa_cons pe_int pa_nil)) (pg_name (i := 4) scTape.nd rfl (Or.inl rfl))
            (pss_cons (ps_set (i := 3) scTape.nd rfl (Or.inl rfl) (pe_op op_mod (pe_op op_add (pe_op op_add (pe_op op_mul (pv 3) pe_int) (pe_op op_mul pe_int (pe_op op_add (pv 2) pe_int))) (pe_op op_mul pe_int (pv 4))) pe_int))
            (pss_cons (ps_set (i := 3) scTape.nd rfl (Or.inl rfl) (pe_op op_mod (pe_op op_mul (pv 3) pe_int) pe_int))
            (pss_one (ps_expr (pe_bm PySem.F.plainAttrs_list PySem.F.slot_list_append PySem.F.type_list_append mt_append (pv 1) (pa_cons (pe_op op_mod (pe_op op_fdiv (pv 3) pe_int) pe_int) pa_nil))))))))))))
      (pss_one (ps_ret (pv 1)))), ?_⟩
    refine ⟨by show 0 ≤ sizeLine; decide, fun p hp => ?_⟩
    have s0 : ∀ o, Same H (upd H p o) := fun o => same_new hp
    refine ⟨_, rfl, a, _, rfl, .inl ((s0 _).seq hS), _, rfl, ?_, ?_, ?_⟩
    · rw [List.length_map]; omega
    · rw [List.length_map]; omega
    refine for_range (lo := 0) (fun i σ H' => ∃ (ts : List Int) (v2 v3 v4 : Option V), σ = [some (.ref a), some (.ref p), v2, v3, v4] ∧ H' = upd H p (.lst (ts.map V.int)) ∧ TapeOk ts ∧ ts.length ≤ 60 * i)
      ⟨[], none, none, none, rfl, rfl, TapeOk.nil, by simp⟩ ?_ ?_
    · rintro i σ H' hi ⟨ts, v2, v3, v4, rfl, rfl, ht, hl⟩
      have hi' : i < ns.length := by rw [List.length_map] at hi; omega
      -- value = abs(int(script[k]))
      refine ⟨_, rfl, _, rfl, a, _, _, V.int ns[i], rfl, rfl, (s0 _).seq hS, ?_, .inl ⟨_, rfl, _, rfl, ?_⟩⟩
      · rw [Int.zero_add]
        exact atI_nat (get_map (List.getElem?_eq_getElem hi'))
      have hv : 0 ≤ (if ns[i] < 0 then -ns[i] else ns[i]) := by split <;> omega
      generalize (if ns[i] < 0 then -ns[i] else ns[i]) = v at hv
      -- value >= 10 ** 18
      refine ⟨_, rfl, _, _, rfl, rfl, ⟨by decide, by decide, by decide⟩, _, _, rfl, rfl, _, rfl, ?_⟩
      refine ite2 (fun hc => ?_) (fun hc => ?_)
      · refine ⟨60, rfl, by decide, by decide, ?_⟩
        refine for_range (lo := 0) (n := 60) (fun j σ H' => ∃ (ts' : List Int) (v : Int) (v4 : Option V), σ = [some (.ref a), some (.ref p), some (.int (0 + (i : Int))), some (.int v), v4] ∧ H' = upd H p (.lst (ts'.map V.int)) ∧ TapeOk ts' ∧ ts'.length ≤ 60 * i + j)
          ⟨ts, v, v4, rfl, rfl, ht, by omega⟩ ?_ ?_
        · rintro j σ H' hj ⟨ts', u, v4', rfl, rfl, ht', hl'⟩
          refine ⟨_, rfl, _, _, rfl, rfl, _, rfl, ?_⟩
          refine ite2 (fun hu => ?_) (fun hu => ?_)
          · refine ⟨_, rfl, .inl ⟨rfl, _, SqL.of upd_same⟩, _, rfl, _, _, rfl, rfl, (by show (0 : Int) < 1000; decide), p, _, _, rfl, rfl, upd_same, ?_, ?_⟩
            · rw [List.length_map]; exact Nat.lt_of_le_of_lt (by omega : ts'.length ≤ 3780) (by decide)
            refine ⟨_, rfl, _, _, rfl, rfl, ⟨by decide, by decide⟩, ?_⟩
            refine ⟨ts' ++ [u % 1000], u / 1000, _, rfl, snocT, ht'.snoc (by omega) (by omega), ?_⟩
            rw [List.length_append]; simp only [List.length_cons, List.length_nil]; omega
          · exact ⟨ts', u, _, rfl, rfl, ht', by omega⟩
        · rintro σ H' ⟨ts', u, v4', rfl, rfl, ht', hl'⟩
          exact ⟨ts', _, _, _, rfl, rfl, ht', by omega⟩
      · have hc' : v < 10 ^ 18 := by
          have := of_decide_eq_false (Bool.eq_false_iff.mpr hc)
          have e : (10 : Int) ^ (18 : Int).toNat = 10 ^ 18 := rfl
          omega
        refine ⟨4, rfl, by decide, by decide, ?_⟩
        refine for_range (lo := 0) (n := 4) (fun j σ H' => ∃ (ts' : List Int) (v : Int) (v4 : Option V), σ = [some (.ref a), some (.ref p), some (.int (0 + (i : Int))), some (.int v), v4] ∧ H' = upd H p (.lst (ts'.map V.int)) ∧ TapeOk ts' ∧ ts'.length ≤ 60 * i + j ∧ 0 ≤ v ∧ v < 10 ^ 18)
          ⟨ts, v, v4, rfl, rfl, ht, by omega, hv, hc'⟩ ?_ ?_
        · rintro j σ H' hj ⟨ts', u, v4', rfl, rfl, ht', hl', hu0, hu1⟩
          refine ⟨_, rfl, _, _, rfl, rfl, .inl ⟨by omega, by omega⟩, _, rfl, _, _, rfl, rfl, _, _, rfl, rfl, .inl ⟨by decide, by decide⟩, _, _, rfl, rfl, _, rfl, _, _, rfl, rfl, .inl ⟨by decide, by decide⟩, _, _, rfl, rfl, _, _, rfl, rfl, (by show (0 : Int) < 2147483647; decide), ?_⟩
          refine ⟨_, rfl, _, _, rfl, rfl, .inl ⟨by omega, by omega⟩, _, _, rfl, rfl, (by show (0 : Int) < 2147483647; decide), ?_⟩
          refine ⟨_, rfl, .inl ⟨rfl, _, SqL.of upd_same⟩, _, rfl, _, _, rfl, rfl, ⟨by decide, by decide⟩, _, _, rfl, rfl, (by show (0 : Int) < 1000; decide), p, _, _, rfl, rfl, upd_same, ?_, ?_⟩
          · rw [List.length_map]; exact Nat.lt_of_le_of_lt (by omega : ts'.length ≤ 3780) (by decide)
          refine ⟨ts' ++ [_], _, _, rfl, snocT, ht'.snoc (by omega) (by omega), ?_, by omega, by omega⟩
          rw [List.length_append]; simp only [List.length_cons, List.length_nil]; omega
        · rintro σ H' ⟨ts', u, v4', rfl, rfl, ht', hl', _, _⟩
          exact ⟨ts', _, _, _, rfl, rfl, ht', by omega⟩
    · rintro σ H' ⟨ts, v2, v3, v4, rfl, rfl, ht, hl⟩
      refine ⟨_, rfl, ?_⟩
      exact k p ts hp ht (by rw [List.length_map] at hl; omega)
theorem scAt : FnScope ["tape", "k"] ["tape", "k"] (defScope sAt) := ⟨rfl, rfl, rfl, by decide +kernel, rfl, by decide +kernel, by decide +kernel⟩
theorem ok_at (F : Fun K "_law_at" "_law_at" sAt f fd) (B : Blt mg) : FnOk P w K mg base CX0 1 f fd ["tape", "k"] (spAt K) := by
  refine F.ok scAt (fun vs H Q E h => ?_) (fun cdv A outer s H vs Q E hr h => ?_)
  · obtain ⟨p, ts, k, rfl, _⟩ := h
    rfl
  · obtain ⟨p, ts, k, rfl, hS, q⟩ := h
    refine ⟨_, pss_cons (ps_if (pt_cmpR op_lt (pv 1) (pe_callB call_len_seq (by rfl) B.len PySem.boot_len (pa_cons (pv 0) pa_nil)) (nomark _)) (pss_one (ps_ret (pe_ix ix_list (pv 0) (pv 1) (fun _ _ => rfl)))) pss_nil)
      (pss_one (ps_ret pe_int)), ?_⟩
    refine ⟨_, rfl, _, rfl, p, _, rfl, .inl hS, _, _, rfl, rfl, _, rfl, ?_⟩
    rw [List.length_map]
    rw [List.getD_eq_getElem?_getD] at q
    refine ite2 (fun hc => ?_) (fun hc => ?_)
    · have h1 : k < ts.length := by
        have := of_decide_eq_true hc
        omega
      rw [List.getElem?_eq_getElem h1] at q
      exact ⟨_, rfl, _, rfl, p, _, _, _, rfl, rfl, hS, atI_nat (get_map (List.getElem?_eq_getElem h1)), q⟩
    · have h1 : ts.length ≤ k := by
        have := of_decide_eq_false (Bool.eq_false_iff.mpr hc)
        omega
      rw [List.getElem?_eq_none h1] at q
      exact q
end
end Sg

set_option Elab.async false
set_option linter.all false
set_option maxRecDepth 100000
set_option maxHeartbeats 4000000
namespace Sg
open PySem PySem.Spec PyProof.Rows L2
abbrev sWhole : Stmt := top 1
abbrev sAtLeast : Stmt := top 2
abbrev sBetween : Stmt := top 3
abbrev sMake : Stmt := top 14
abbrev sIsRec : Stmt := top 15
abbrev sCount : Stmt := top 16
abbrev sFieldsOf : Stmt := top 17
abbrev sAnswerOf : Stmt := top 18
abbrev sIsKind : Stmt := top 19
abbrev sIsCounter : Stmt := top 20
abbrev sIsField : Stmt := top 21
abbrev sIsTold : Stmt := top 22
abbrev sFields : Stmt := top 26
abbrev sInteger : Stmt := top 27
abbrev sWithin : Stmt := top 28
abbrev sWord : Stmt := top 29
abbrev sToldFits : Stmt := top 30
abbrev sFit : Stmt := top 31
abbrev sValid : Stmt := top 32
abbrev sTold : Stmt := top 33
abbrev sAnswer : Stmt := top 34
abbrev sTables : Stmt := top 35
abbrev sLaw : Stmt := top 36
/-! ### data -/
def intB : PyData → Bool
  | .int _ => true
  | .bool _ => true
  | _ => false
def boolB : PyData → Bool
  | .bool _ => true
  | _ => false
def strB : PyData → Bool
  | .str _ => true
  | _ => false
def tupB : PyData → Bool
  | .tuple _ => true
  | _ => false
def lstB : PyData → Bool
  | .list _ => true
  | _ => false
def wholeD : PyData → Bool
  | .int _ => true
  | _ => false
def atLeastD (lo : Int) : PyData → Bool
  | .int i => decide (lo ≤ i)
  | _ => false
def betwD (lo hi : Int) : PyData → Bool
  | .int i => decide (lo ≤ i) && decide (i ≤ hi)
  | _ => false
/-- what a value's type is, by its data -/
theorem dp_ty {K : PySem.W.Frag} {H : Hp} {x : V} {d : PyData} (h : Dp K H x d) : ∃ t, TyX K H x t ∧ PySem.W.kitOne K t (.type "int") = some (intB d) ∧ PySem.W.kitOne K t (.type "bool") = some (boolB d) ∧ PySem.W.kitOne K t (.type "str") = some (strB d) ∧
    PySem.W.kitOne K t (.type "tuple") = some (tupB d) ∧ PySem.W.kitOne K t (.type "list") = some (lstB d) := by
  cases h with
  | non => exact ⟨_, .base .non, (show PySem.W.kitOne K (.type "NoneType") (.type "int") = some false from kit_ty (by decide +kernel)), (show PySem.W.kitOne K (.type "NoneType") (.type "bool") = some false from kit_ty (by decide +kernel)), (show PySem.W.kitOne K (.type "NoneType") (.type "str") = some false from kit_ty (by decide +kernel)), (show PySem.W.kitOne K (.type "NoneType") (.type "tuple") = some false from kit_ty (by decide +kernel)), (show PySem.W.kitOne K (.type "NoneType") (.type "list") = some false from kit_ty (by decide +kernel))⟩
  | bl b => exact ⟨_, .base (.bl b), (show PySem.W.kitOne K (.type "bool") (.type "int") = some true from kit_ty (by decide +kernel)), (show PySem.W.kitOne K (.type "bool") (.type "bool") = some true from kit_ty (by decide +kernel)), (show PySem.W.kitOne K (.type "bool") (.type "str") = some false from kit_ty (by decide +kernel)), (show PySem.W.kitOne K (.type "bool") (.type "tuple") = some false from kit_ty (by decide +kernel)), (show PySem.W.kitOne K (.type "bool") (.type "list") = some false from kit_ty (by decide +kernel))⟩
  | int i => exact ⟨_, .base (.int i), (show PySem.W.kitOne K (.type "int") (.type "int") = some true from kit_ty (by decide +kernel)), (show PySem.W.kitOne K (.type "int") (.type "bool") = some false from kit_ty (by decide +kernel)), (show PySem.W.kitOne K (.type "int") (.type "str") = some false from kit_ty (by decide +kernel)), (show PySem.W.kitOne K (.type "int") (.type "tuple") = some false from kit_ty (by decide +kernel)), (show PySem.W.kitOne K (.type "int") (.type "list") = some false from kit_ty (by decide +kernel))⟩
  | str x => exact ⟨_, .base (.str x), (show PySem.W.kitOne K (.type "str") (.type "int") = some false from kit_ty (by decide +kernel)), (show PySem.W.kitOne K (.type "str") (.type "bool") = some false from kit_ty (by decide +kernel)), (show PySem.W.kitOne K (.type "str") (.type "str") = some true from kit_ty (by decide +kernel)), (show PySem.W.kitOne K (.type "str") (.type "tuple") = some false from kit_ty (by decide +kernel)), (show PySem.W.kitOne K (.type "str") (.type "list") = some false from kit_ty (by decide +kernel))⟩
  | lst hs _ =>
    refine ⟨.type "list", ?_, (show PySem.W.kitOne K (.type "list") (.type "int") = some false from kit_ty (by decide +kernel)), (show PySem.W.kitOne K (.type "list") (.type "bool") = some false from kit_ty (by decide +kernel)), (show PySem.W.kitOne K (.type "list") (.type "str") = some false from kit_ty (by decide +kernel)), (show PySem.W.kitOne K (.type "list") (.type "tuple") = some false from kit_ty (by decide +kernel)), (show PySem.W.kitOne K (.type "list") (.type "list") = some true from kit_ty (by decide +kernel))⟩
    rcases hs with (h | ⟨o, h⟩) | ⟨o, its, n, h1, h2, _⟩
    · exact .base (.lst h)
    · exact .base (.frz h)
    · exact .kList h1 h2
  | tup hs _ =>
    refine ⟨.type "tuple", ?_, (show PySem.W.kitOne K (.type "tuple") (.type "int") = some false from kit_ty (by decide +kernel)), (show PySem.W.kitOne K (.type "tuple") (.type "bool") = some false from kit_ty (by decide +kernel)), (show PySem.W.kitOne K (.type "tuple") (.type "str") = some false from kit_ty (by decide +kernel)), (show PySem.W.kitOne K (.type "tuple") (.type "tuple") = some true from kit_ty (by decide +kernel)), (show PySem.W.kitOne K (.type "tuple") (.type "list") = some false from kit_ty (by decide +kernel))⟩
    rcases hs with (h | ⟨o, h⟩) | ⟨o, its, n, h1, h2, _⟩
    · exact .base (.tup h)
    · exact .fTuple h
    · exact .kTuple h1 h2
theorem SqT_same {K : PySem.W.Frag} {H H' : Hp} {a : Addr} {xs : List V} (s : Same H H') (h : SqT K H a xs) : SqT K H' a xs := by
  rcases h with (h | ⟨o, h⟩) | h
  · exact .inl (.inl (s _ _ h))
  · exact .inl (.inr ⟨o, s _ _ h⟩)
  · exact .inr h
mutual
theorem dp_same {K : PySem.W.Frag} {H H' : Hp} (s : Same H H') : ∀ (d : PyData) (x : V), Dp K H x d → Dp K H' x d
  | .none, _, h => by cases h; exact .non
  | .bool _, _, h => by cases h; exact .bl _
  | .int _, _, h => by cases h; exact .int _
  | .str _, _, h => by cases h; exact .str _
  | .list ds, _, h => by
    cases h with
    | lst hs ha => exact .lst (s.seq hs) (dpAll_same s ds _ ha)
  | .tuple ds, _, h => by
    cases h with
    | tup hs ha => exact .tup (SqT_same s hs) (dpAll_same s ds _ ha)
  | .dict _, _, h => by cases h
theorem dpAll_same {K : PySem.W.Frag} {H H' : Hp} (s : Same H H') : ∀ (ds : List PyData) (xs : List V), DpAll K H xs ds → DpAll K H' xs ds
  | [], _, h => by cases h; exact .nil
  | d :: ds, _, h => by
    cases h with
    | cons a b => exact .cons (dp_same s d _ a) (dpAll_same s ds _ b)
end
structure Bds (mg : Str → Option Value) (fW : Addr) : Prop where
  isi : mg "isinstance" = none
  int : mg "int" = none
  bool : mg "bool" = none
  str : mg "str" = none
  tup : mg "tuple" = none
  lst : mg "list" = none
  gW : mg "is_whole" = some (.ref fW)
theorem boot_isi : bootBuiltins "isinstance" = some (.builtin "isinstance") := by decide +kernel
def spWhole (K : PySem.W.Frag) : Sp := fun vs H Q _ => ∃ x d, vs = [x] ∧ Dp K H x d ∧ Q (.bl (wholeD d)) H
def spAtLeast (K : PySem.W.Frag) : Sp := fun vs H Q _ => ∃ x d lo, vs = [x, .int lo] ∧ Dp K H x d ∧ Q (.bl (atLeastD lo d)) H
def spBetween (K : PySem.W.Frag) : Sp := fun vs H Q _ => ∃ x d lo hi, vs = [x, .int lo, .int hi] ∧ Dp K H x d ∧ Q (.bl (betwD lo hi d)) H
theorem whole_eq (d : PyData) : (intB d && !boolB d) = wholeD d := by cases d <;> rfl
theorem not_whole_at {lo : Int} {d : PyData} (h : wholeD d = false) : atLeastD lo d = false := by cases d <;> first | rfl | cases h
theorem not_whole_bt {lo hi : Int} {d : PyData} (h : wholeD d = false) : betwD lo hi d = false := by cases d <;> first | rfl | cases h
theorem whole_int {K : PySem.W.Frag} {H : Hp} {x : V} {d : PyData} (h : Dp K H x d) (w : wholeD d = true) : ∃ i, x = .int i ∧ d = .int i := by
  cases h <;> first | exact ⟨_, rfl, rfl⟩ | cases w
section
variable {P : Program} {wrl : World} {K : PySem.W.Frag} {mg : Str → Option Value} {base : Heap} {f fW : Addr} {fd fdW : FuncData}
theorem scWhole : FnScope ["value"] ["value"] (defScope sWhole) := ⟨rfl, rfl, rfl, by decide +kernel, rfl, by decide +kernel, by decide +kernel⟩
theorem ok_whole (F : Fun K "is_whole" "is_whole" sWhole f fd) (B : Bds mg fW) : FnOk P wrl K mg base CX0 1 f fd ["value"] (spWhole K) := by
  refine F.ok scWhole (fun vs H Q E h => ?_) (fun cdv A outer s H vs Q E hr h => ?_)
  · obtain ⟨x, d, rfl, _⟩ := h
    rfl
  · obtain ⟨x, d, rfl, hd, q⟩ := h
    obtain ⟨t, ty, h1, h2, _⟩ := dp_ty hd
    refine ⟨_, pss_one (ps_ret (pe_and (pe_callB call_isi (by rfl) B.isi boot_isi (pa_cons (pv 0) (pa_cons (pe_bltn (v := .ty "int") (by rfl) B.int boot_int rfl) pa_nil)))
      (pe_one (pe_not (pe_callB call_isi (by rfl) B.isi boot_isi (pa_cons (pv 0) (pa_cons (pe_bltn (v := .ty "bool") (by rfl) B.bool boot_bool rfl) pa_nil))))))), ?_⟩
    rw [← whole_eq] at q
    refine ⟨_, rfl, x, _, t, _, _, rfl, .ty "int", ty, h1, _, rfl, ?_⟩
    cases hb : intB d with
    | true =>
      rw [hb] at q
      exact iteT ⟨_, rfl, x, _, t, _, _, rfl, .ty "bool", ty, h2, _, rfl, q⟩
    | false =>
      rw [hb] at q
      exact iteF q
theorem scAtLeast : FnScope ["value", "low"] ["value", "low"] (defScope sAtLeast) := ⟨rfl, rfl, rfl, by decide +kernel, rfl, by decide +kernel, by decide +kernel⟩
theorem ok_atLeast (F : Fun K "is_at_least" "is_at_least" sAtLeast f fd) (B : Bds mg fW) (FW : Fun K "is_whole" "is_whole" sWhole fW fdW) (bW : Binds K fdW ["value"] []) : FnOk P wrl K mg base CX0 2 f fd ["value", "low"] (spAtLeast K) := by
  have GW : FnOk P wrl K mg base CX0 1 fW fdW ["value"] (spWhole K) := ok_whole FW B
  refine F.ok scAtLeast (fun vs H Q E h => ?_) (fun cdv A outer s H vs Q E hr h => ?_)
  · obtain ⟨x, d, lo, rfl, _⟩ := h
    rfl
  · obtain ⟨x, d, lo, rfl, hd, q⟩ := h
    refine ⟨_, pss_one (ps_ret (pe_and (pe_call GW hr (by rfl) B.gW FW.kp bW .nil pass0 (pa_cons (pv 0) pa_nil)) (pe_one (pe_cmpR op_ge (pv 0) (pv 1) (nomark _))))), ?_⟩
    refine ⟨_, rfl, x, d, rfl, hd, _, rfl, ?_⟩
    cases hw : wholeD d with
    | false =>
      rw [not_whole_at hw] at q
      exact iteF q
    | true =>
      obtain ⟨i, rfl, rfl⟩ := whole_int hd hw
      exact iteT ⟨_, rfl, _, rfl, _, _, rfl, rfl, q⟩
theorem scBetween : FnScope ["value", "low", "high"] ["value", "low", "high"] (defScope sBetween) := ⟨rfl, rfl, rfl, by decide +kernel, rfl, by decide +kernel, by decide +kernel⟩
theorem ok_between (F : Fun K "is_between" "is_between" sBetween f fd) (B : Bds mg fW) (FW : Fun K "is_whole" "is_whole" sWhole fW fdW) (bW : Binds K fdW ["value"] []) : FnOk P wrl K mg base CX0 2 f fd ["value", "low", "high"] (spBetween K) := by
  have GW : FnOk P wrl K mg base CX0 1 fW fdW ["value"] (spWhole K) := ok_whole FW B
  refine F.ok scBetween (fun vs H Q E h => ?_) (fun cdv A outer s H vs Q E hr h => ?_)
  · obtain ⟨x, d, lo, hi, rfl, _⟩ := h
    rfl
  · obtain ⟨x, d, lo, hi, rfl, hd, q⟩ := h
    refine ⟨_, pss_one (ps_ret (pe_and (pe_call GW hr (by rfl) B.gW FW.kp bW .nil pass0 (pa_cons (pv 0) pa_nil)) (pe_one (pe_chain op_le op_le (pv 1) (pv 0) (pv 2))))), ?_⟩
    refine ⟨_, rfl, x, d, rfl, hd, _, rfl, ?_⟩
    cases hw : wholeD d with
    | false =>
      rw [not_whole_bt hw] at q
      exact iteF q
    | true =>
      obtain ⟨i, rfl, rfl⟩ := whole_int hd hw
      refine iteT ⟨_, rfl, _, rfl, _, _, rfl, rfl, _, rfl, ?_⟩
      by_cases c : lo ≤ i
      · rw [show betwD lo hi (.int i) = (decide (lo ≤ i) && decide (i ≤ hi)) from rfl, decide_eq_true c] at q
        rw [if_pos (decide_eq_true c)]
        exact ⟨_, rfl, _, _, rfl, rfl, q⟩
      · rw [show betwD lo hi (.int i) = (decide (lo ≤ i) && decide (i ≤ hi)) from rfl, decide_eq_false c] at q
        rw [if_neg (by rw [decide_eq_false c]; exact Bool.false_ne_true)]
        exact q
end
end Sg

set_option Elab.async false
set_option linter.all false
set_option maxRecDepth 100000
set_option maxHeartbeats 4000000
namespace Sg
open PySem PySem.Spec PyProof.Rows L2
def kindsL : List Str := ["mark", "make", "remove", "write", "trim", "snap", "drop", "register", "leave", "reserve", "release", "preempt"]
def fieldT : List (Str × List Str) := [("mark", ["told"]), ("make", ["namespace", "size"]), ("remove", ["namespace"]), ("write", ["namespace", "place", "value"]), ("trim", ["namespace", "place"]), ("snap", ["namespace"]), ("drop", ["namespace", "snapshot"]),
  ("register", ["namespace"]), ("leave", ["namespace", "held"]), ("reserve", ["namespace", "way"]), ("release", ["namespace"]), ("preempt", ["namespace", "victim", "way or none"])]
def strIn (s : Str) (ns : List Str) : Bool := ns.any fun y => decide (y = s)
theorem inV_str {s : Str} : ∀ {ns : List Str}, inV (.str s) (ns.map V.str) = strIn s ns
  | [] => rfl
  | n :: ns => by
    show (eqV (.str n) (.str s) || inV (.str s) (ns.map V.str)) = (decide (n = s) || strIn s ns)
    rw [inV_str (ns := ns)]
    rfl
theorem flat_strs : ∀ {ns : List Str}, (ns.map V.str).all flatV = true
  | [] => rfl
  | n :: ns => by rw [List.map_cons, List.all_cons, flat_strs (ns := ns)]; rfl
def strInD (ns : List Str) : PyData → Bool
  | .str s => strIn s ns
  | _ => false
def noneB : PyData → Bool
  | .none => true
  | _ => false
def pairB : PyData → Bool
  | .tuple [_, _] => true
  | _ => false
def toldD : PyData → Bool
  | .tuple [s, c, a] => atLeastD 1 s && (atLeastD 0 c && (noneB a || pairB a))
  | _ => false
def counterD (k : Str) (d : PyData) : Bool := if k = "mark" then betwD 0 0 d else atLeastD 1 d
def fieldD (n : Str) (d : PyData) (o : Int) : Bool :=
  if n = "namespace" then betwD 1 8 d else if n = "place" then betwD 0 63 d else if n = "value" then wholeD d else if n = "size" then betwD 1 64 d else if n = "snapshot" then betwD 1 (o - 1) d else if n = "victim" then betwD 0 3 d
  else if n = "held" then boolB d else if n = "told" then (noneB d || toldD d) else if n = "way or none" ∧ noneB d = true then true else strInD ["write", "alone"] d
/-- what the records' module has written -/
structure RX (K : PySem.W.Frag) (w : World) (mg : Str → Option Value) (aK aF : Addr) : Prop where
  gK : mg "KINDS" = some (.ref aK)
  sK : ∀ H, SqT K H aK (kindsL.map V.str)
  oK : ∃ o, K.lookup aK = some o ∧ o.cls = .type "tuple" ∧ o.dict = Option.none
  gF : mg "FIELDS" = some (.ref aF)
  fT : ∀ p ∈ fieldT, ∃ a, KDct K w aF p.1 (.ref a) ∧ ∀ H, SqT K H a (p.2.map V.str)
  gHd : ∃ t, mg "HEAD" = some (.int 5 t)
  gHo : ∃ t, mg "HOSTS" = some (.int 4 t)
  gNs : ∃ t, mg "NAMESPACES" = some (.int 8 t)
  gPl : ∃ t, mg "PLACES" = some (.int 64 t)
/-- a def of the module's own, ready to be called -/
structure Def (P : Program) (wd : World) (K : PySem.W.Frag) (mg : Str → Option Value) (base : Heap) (CX : CXT) (x : Str) (k : Nat) (ps : List Str) (sp : Sp) (f : Addr) (fd : FuncData) : Prop where
  ok : FnOk P wd K mg base CX k f fd ps sp
  bd : Binds K fd ps []
  kp : PySem.W.keepIn K (.ref f) = true
  mg : mg x = some (.ref f)
theorem str_eqT {x : Str} : decide (V.str x = V.str x) = true := decide_eq_true rfl
theorem str_eqF {x y : Str} (h : ¬ x = y) : decide (V.str x = V.str y) = false := decide_eq_false (fun z => h (by cases z; rfl))
def spKindQ (K : PySem.W.Frag) : Sp := fun vs H Q _ => ∃ x d, vs = [x] ∧ Dp K H x d ∧ Q (.bl (strInD kindsL d)) H
def spCounter (K : PySem.W.Frag) : Sp := fun vs H Q _ => ∃ x d k, vs = [x, .str k] ∧ Dp K H x d ∧ Q (.bl (counterD k d)) H
def spTold1 (K : PySem.W.Frag) : Sp := fun vs H Q _ => ∃ x d, vs = [x] ∧ Dp K H x d ∧ Q (.bl (toldD d)) H
section
variable {P : Program} {wrl : World} {K : PySem.W.Frag} {mg : Str → Option Value} {base : Heap} {f fW fA fB fT aK aF : Addr} {fd fdW fdA fdB fdT : FuncData}
theorem scIsKind : FnScope ["value"] ["value"] (defScope sIsKind) := ⟨rfl, rfl, rfl, by decide +kernel, rfl, by decide +kernel, by decide +kernel⟩
theorem ok_isKind (F : Fun K "_is_kind" "_is_kind" sIsKind f fd) (B : Bds mg fW) (R : RX K wrl mg aK aF) : FnOk P wrl K mg base CX0 1 f fd ["value"] (spKindQ K) := by
  refine F.ok scIsKind (fun vs H Q E h => ?_) (fun cdv A outer s H vs Q E hr h => ?_)
  · obtain ⟨x, d, rfl, _⟩ := h
    rfl
  · obtain ⟨x, d, rfl, hd, q⟩ := h
    obtain ⟨t, ty, _, _, h3, _⟩ := dp_ty hd
    refine ⟨_, pss_one (ps_ret (pe_and (pe_callB call_isi (by rfl) B.isi boot_isi (pa_cons (pv 0) (pa_cons (pe_bltn (v := .ty "str") (by rfl) B.str boot_str rfl) pa_nil)))
      (pe_one (pe_cmpR op_in_seq (pv 0) (pe_glob (v := .ref aK) (by rfl) R.gK rfl) (by rfl))))), ?_⟩
    refine ⟨_, rfl, x, _, t, _, _, rfl, .ty "str", ty, h3, _, rfl, ?_⟩
    cases hd with
    | str z =>
      refine iteT ⟨_, rfl, aK, _, rfl, .inr (R.sK H), rfl, flat_strs, ?_⟩
      have e : inV (.str z) (kindsL.map V.str) = strInD kindsL (.str z) := inV_str
      rw [← e] at q
      exact q
    | non => exact iteF q
    | bl b => exact iteF q
    | int i => exact iteF q
    | lst h1 h2 => exact iteF q
    | tup h1 h2 => exact iteF q
theorem scIsCounter : FnScope ["value", "kind"] ["value", "kind"] (defScope sIsCounter) := ⟨rfl, rfl, rfl, by decide +kernel, rfl, by decide +kernel, by decide +kernel⟩
theorem ok_isCounter (F : Fun K "_is_counter" "_is_counter" sIsCounter f fd) (GA : Def P wrl K mg base CX0 "is_at_least" 2 ["value", "low"] (spAtLeast K) fA fdA) (GB : Def P wrl K mg base CX0 "is_between" 2 ["value", "low", "high"] (spBetween K) fB fdB) :
    FnOk P wrl K mg base CX0 3 f fd ["value", "kind"] (spCounter K) := by
  refine F.ok scIsCounter (fun vs H Q E h => ?_) (fun cdv A outer s H vs Q E hr h => ?_)
  · obtain ⟨x, d, k, rfl, _⟩ := h
    rfl
  · obtain ⟨x, d, k, rfl, hd, q⟩ := h
    refine ⟨_, pss_cons (ps_if (pt_cmpR op_eq (pv 1) pe_str (nomark _)) (pss_one (ps_ret (pe_call GB.ok hr (by rfl) GB.mg GB.kp GB.bd .nil pass0 (pa_cons (pv 0) (pa_cons pe_int (pa_cons pe_int pa_nil)))))) pss_nil)
      (pss_one (ps_ret (pe_call GA.ok hr (by rfl) GA.mg GA.kp GA.bd .nil pass0 (pa_cons (pv 0) (pa_cons pe_int pa_nil))))), ?_⟩
    refine ⟨_, rfl, rfl, _, rfl, ?_⟩
    by_cases hk : k = "mark"
    · subst hk
      rw [show counterD "mark" d = betwD 0 0 d from if_pos rfl] at q
      rw [str_eqT]
      exact iteT ⟨_, rfl, x, d, 0, 0, rfl, hd, q⟩
    · rw [show counterD k d = atLeastD 1 d from if_neg hk] at q
      rw [str_eqF hk]
      exact iteF ⟨_, rfl, x, d, 1, rfl, hd, q⟩
theorem scIsTold : FnScope ["value", "session", "counter", "answer"] ["value"] (defScope sIsTold) := ⟨rfl, rfl, rfl, by decide +kernel, rfl, by decide +kernel, by decide +kernel⟩
theorem dpAll_len {K : PySem.W.Frag} {H : Hp} : ∀ {xs : List V} {ds : List PyData}, DpAll K H xs ds → xs.length = ds.length
  | _, _, .nil => rfl
  | _, _, .cons _ b => by rw [List.length_cons, List.length_cons, dpAll_len b]
theorem dpAll_cons {K : PySem.W.Frag} {H : Hp} {xs : List V} {d : PyData} {ds : List PyData} (h : DpAll K H xs (d :: ds)) : ∃ x xs', xs = x :: xs' ∧ Dp K H x d ∧ DpAll K H xs' ds := by
  cases h with
  | cons a b => exact ⟨_, _, rfl, a, b⟩
theorem dpAll_nil {K : PySem.W.Frag} {H : Hp} {xs : List V} (h : DpAll K H xs []) : xs = [] := by cases h; rfl
theorem dpAll_3 {K : PySem.W.Frag} {H : Hp} {xs : List V} {ds : List PyData} (h : DpAll K H xs ds) (h3 : ds.length = 3) : ∃ x1 x2 x3 d1 d2 d3, xs = [x1, x2, x3] ∧ ds = [d1, d2, d3] ∧ Dp K H x1 d1 ∧ Dp K H x2 d2 ∧ Dp K H x3 d3 := by
  match ds, h3 with
  | [d1, d2, d3], _ =>
    obtain ⟨x1, r1, rfl, a1, b1⟩ := dpAll_cons h
    obtain ⟨x2, r2, rfl, a2, b2⟩ := dpAll_cons b1
    obtain ⟨x3, r3, rfl, a3, b3⟩ := dpAll_cons b2
    obtain rfl := dpAll_nil b3
    exact ⟨_, _, _, _, _, _, rfl, rfl, a1, a2, a3⟩
theorem dp_non {K : PySem.W.Frag} {H : Hp} {x : V} {d : PyData} (h : Dp K H x d) : decide (x = .non) = noneB d := by
  cases h <;> first | exact decide_eq_true rfl | exact decide_eq_false (by intro z; cases z)
theorem dp_tup {K : PySem.W.Frag} {H : Hp} {x : V} {d : PyData} (h : Dp K H x d) (t : tupB d = true) : ∃ a xs ds, x = .ref a ∧ d = .tuple ds ∧ SqT K H a xs ∧ DpAll K H xs ds := by
  cases h <;> first | exact ⟨_, _, _, rfl, rfl, ‹_›, ‹_›⟩ | cases t
theorem ok_isTold (F : Fun K "_is_told" "_is_told" sIsTold f fd) (B : Bds mg fW) (hlen : mg "len" = none) (GA : Def P wrl K mg base CX0 "is_at_least" 2 ["value", "low"] (spAtLeast K) fA fdA) :
    FnOk P wrl K mg base CX0 3 f fd ["value"] (spTold1 K) := by
  refine F.ok scIsTold (fun vs H Q E h => ?_) (fun cdv A outer s H vs Q E hr h => ?_)
  · obtain ⟨x, d, rfl, _⟩ := h
    rfl
  · obtain ⟨x, d, rfl, hd, q⟩ := h
    obtain ⟨t, ty, _, _, _, h4, _⟩ := dp_ty hd
    refine ⟨_, pss_cons (ps_if (PW.pt (pw_or (pt_not (pt_val (pe_callB call_isi (by rfl) B.isi boot_isi (pa_cons (pv 0) (pa_cons (pe_bltn (v := .ty "tuple") (by rfl) B.tup boot_tuple rfl) pa_nil))))) (pw_or1 (pt_cmpR op_ne (pe_callB call_len_seq (by rfl) hlen PySem.boot_len (pa_cons (pv 0) pa_nil)) pe_int (nomark _))))) (pss_one (ps_ret pe_bl)) pss_nil)
      (pss_cons (ps_asg (pv 0) (pg_tup (by rfl) (pgs_cons (pg_name (i := 1) scIsTold.nd rfl (Or.inl rfl)) (pgs_cons (pg_name (i := 2) scIsTold.nd rfl (Or.inl rfl)) (pgs_cons (pg_name (i := 3) scIsTold.nd rfl (Or.inl rfl)) L2.pgs_nil)))))
      (pss_cons (ps_if (PW.pt (pw_or (pt_not (pt_val (pe_call GA.ok hr (by rfl) GA.mg GA.kp GA.bd .nil pass0 (pa_cons (pv 1) (pa_cons pe_int pa_nil))))) (pw_or1 (pt_not (pt_val (pe_call GA.ok hr (by rfl) GA.mg GA.kp GA.bd .nil pass0 (pa_cons (pv 2) (pa_cons pe_int pa_nil)))))))) (pss_one (ps_ret pe_bl)) pss_nil)
      (pss_one (ps_ret (pe_or (pe_cmpR op_isN (pv 3) pe_non (nomark _)) (pe_one (pe_and (pe_callB call_isi (by rfl) B.isi boot_isi (pa_cons (pv 3) (pa_cons (pe_bltn (v := .ty "tuple") (by rfl) B.tup boot_tuple rfl) pa_nil))) (pe_one (pe_cmpR op_eq (pe_callB call_len_seq (by rfl) hlen PySem.boot_len (pa_cons (pv 3) pa_nil)) pe_int (nomark _)))))))))), ?_⟩
    refine ⟨_, rfl, x, _, t, _, _, rfl, .ty "tuple", ty, h4, _, rfl, ?_⟩
    cases ht : tupB d with
    | false =>
      have e : toldD d = false := by cases d <;> first | rfl | cases ht
      rw [e] at q
      exact iteT (iteT q)
    | true =>
      refine iteF ?_
      obtain ⟨a, xs, ds, rfl, rfl, hs, ha⟩ := dp_tup hd ht
      refine ⟨_, rfl, a, xs, rfl, .inr hs, rfl, _, rfl, ?_⟩
      have hl := dpAll_len ha
      by_cases h3 : ds.length = 3
      · rw [decide_eq_true (show V.int (xs.length : Int) = V.int 3 by rw [hl, h3]; rfl)]
        refine iteF ?_
        obtain ⟨x1, x2, x3, d1, d2, d3, rfl, rfl, e1, e2, e3⟩ := dpAll_3 ha h3
        refine ⟨_, rfl, a, _, rfl, hs, rfl, _, _, rfl, _, _, rfl, _, _, rfl, rfl, ?_⟩
        have q' : Q (.bl (atLeastD 1 d1 && (atLeastD 0 d2 && (noneB d3 || pairB d3)))) H := q
        refine ⟨_, rfl, x1, d1, 1, rfl, e1, _, rfl, ?_⟩
        cases b1 : atLeastD 1 d1 with
        | false => rw [b1] at q'; exact iteT (iteT q')
        | true =>
          rw [b1] at q'
          refine iteF ⟨_, rfl, x2, d2, 0, rfl, e2, _, rfl, ?_⟩
          cases b2 : atLeastD 0 d2 with
          | false => rw [b2] at q'; exact iteT q'
          | true =>
            rw [b2] at q'
            refine iteF ?_
            have q3 : Q (.bl (noneB d3 || pairB d3)) H := q'
            refine ⟨_, rfl, rfl, _, rfl, ?_⟩
            rw [dp_non e3]
            cases n3 : noneB d3 with
            | true => rw [n3] at q3; exact iteT q3
            | false =>
              rw [n3] at q3
              obtain ⟨t3, ty3, _, _, _, k4, _⟩ := dp_ty e3
              refine iteF ⟨_, rfl, x3, _, t3, _, _, rfl, .ty "tuple", ty3, k4, _, rfl, ?_⟩
              cases ht3 : tupB d3 with
              | false =>
                have e : pairB d3 = false := by cases d3 <;> first | rfl | cases ht3
                rw [e] at q3
                exact iteF q3
              | true =>
                obtain ⟨a3, ys, es, rfl, rfl, hs3, ha3⟩ := dp_tup e3 ht3
                refine iteT ⟨_, rfl, a3, ys, rfl, .inr hs3, rfl, ?_⟩
                have hl3 := dpAll_len ha3
                have e : decide (V.int (ys.length : Int) = V.int 2) = pairB (.tuple es) := by
                  rw [hl3]
                  match es with
                  | [] => exact decide_eq_false (by intro z; injection z with z; cases z)
                  | [_] => exact decide_eq_false (by intro z; injection z with z; cases z)
                  | [_, _] => exact decide_eq_true rfl
                  | _ :: _ :: _ :: r => exact decide_eq_false (by intro z; injection z with z; simp only [List.length_cons] at z; omega)
                rw [e]
                exact q3
      · have e : toldD (.tuple ds) = false := by
          match ds, h3 with
          | [], _ => rfl
          | [_], _ => rfl
          | [_, _], _ => rfl
          | [_, _, _], h => exact absurd rfl h
          | _ :: _ :: _ :: _ :: _, _ => rfl
        rw [e] at q
        rw [decide_eq_false (show ¬ V.int (xs.length : Int) = V.int 3 by rw [hl]; intro z; injection z with z; omega)]
        exact iteT q
end
end Sg

set_option Elab.async false
set_option linter.all false
set_option maxRecDepth 100000
set_option maxHeartbeats 4000000
namespace Sg
open PySem PySem.Spec PyProof.Rows L2 HT
section
variable {prog : Program} {w : World} {A : Around} {E : Value → Shared → Prop} {s : Shared}
/-- t[lo:hi] that takes all of a tuple is the tuple itself -/
theorem tup_all {t sl : Addr} {items : Array Value} {vl vu : Value} {lo hi : Option Int} {Q : Value → Shared → Prop} (ht : IsTup s.heap t items) (hs : s.heap.IsSliceOf sl vl vu .none) (pl : IsPart vl lo) (pu : IsPart vu hi)
    (h1 : sIx items.size 0 lo = 0) (h2 : sIx items.size items.size hi = items.size) (h : Q (.ref t) s) : wpAny (model prog w) A (getItem (.ref t) (.ref sl)) Q E s := by
  obtain ⟨os, hos, hcs, hds⟩ := id hs
  have hTs : s.TypeIs (.ref sl) "slice" := ⟨os, hos, hcs⟩
  unfold getItem
  try with_reducible refine wpAny_holding ?_
  first | refine wpAny_bind (wpAny_pure ?_) | skip
  refine wpAny_bind (wpAny_sequenceKey ht.typeIs (by decide) ?_)
  refine wpAny_bind (wpAny_callSpecial?_slot (name := Str.ofString "__getitem__") ht.typeIs PyProof.Rows.slot_tuple_getitem
    (wpAny_call_entry PyProof.Rows.slot_tuple_getitem ht.typeIs entry_tuple_getitem ?_ (args_tuple_getitem _ _)))
  show wpAny _ _ (Builtin.Tuple.tupleItemsOf (.ref t) >>= _) _ _ s
  refine wpAny_bind (tupleItemsOf_ ht (wpAny_bind (wpAny_typeOf hTs ?_)))
  rw [if_pos (by decide)]
  refine wpAny_bind (sliceApplied_gen hs pl pu ?_)
  rw [h1, h2]
  show wpAny _ _ (if (((0 : Nat) : Int) == 0 && (1 : Int) == 1 && (items.size - 0) == items.size) = true then _ else _) _ _ s
  rw [if_pos (by simp)]
  show wpAny _ _ (Builtin.Tuple.tupleIsExact (.ref t) >>= _) _ _ s
  refine wpAny_bind (m := Builtin.Tuple.tupleIsExact _) ?_
  unfold Builtin.Tuple.tupleIsExact
  refine wpAny_bind (wpAny_typeOf ht.typeIs (wpAny_pure ?_))
  rw [if_pos (by decide)]
  exact wpAny_bind (wpAny_rule (wpAny_pure ⟨_, rfl, wpAny_pure h⟩))
end
section
variable {X : Cx}
/-- t[lo:hi], a part or all of a tuple -/
def rSlA (K : PySem.W.Frag) : V → Option Int → Option Int → Hp → VK → Prop := fun x lo hi H Q => ∃ a xs, x = .ref a ∧ SqT K H a xs ∧ ∀ p H', Same H H' → SqT K H' p (cutV xs lo hi) → Q (.ref p) H'
theorem sl_any : SlR X (rSlA X.K) := by
  intro pins s σ H x v vl vu lo hi sl Q I rx hs pl pu h
  obtain ⟨a, xs, rfl, hx, q⟩ := h
  by_cases hw : sIx xs.length 0 lo = 0 ∧ sIx xs.length xs.length hi = xs.length
  · cases rx
    obtain ⟨its, r, ht, hz⟩ := I.tuple hx
    have hlen : its.toArray.size = xs.length := by rw [List.size_toArray]; exact r.length.symm
    refine ⟨"tuple", _, PyProof.Rows.slot_tuple_getitem.lookup, ht.typeIs, ?_⟩
    refine tup_all ht hs pl pu (by rw [hlen]; exact hw.1) (by rw [hlen]; exact hw.2) ⟨.ref a, H, I, rfl, q a H (Same.refl H) ?_⟩
    have e : cutV xs lo hi = xs := by
      unfold cutV
      rw [hw.1, hw.2]
      simp
    rw [e]
    exact hx
  · exact sl_tup pins s σ H (.ref a) v vl vu lo hi sl Q I rx hs pl pu ⟨a, xs, rfl, hx, hw, fun p hp => q p _ (same_new hp) (SqT.of upd_same)⟩
/-- x is b, x is not b: b True or False -/
def rIsB (neg : Bool) : R2 := fun x y H Q => ∃ b c, y = .bl b ∧ x = .bl c ∧ Q (.bl (if neg then !decide (c = b) else decide (c = b))) H
theorem op_isB : OpR X (compareOp .Is) (rIsB false) := by
  intro pins s σ H x y v u Q I rx ry h
  obtain ⟨b, c, rfl, rfl, q⟩ := h
  cases rx
  cases ry
  have e : (Value.bool c == Value.bool b) = decide (c = b) := by cases b <;> cases c <;> rfl
  exact wpAny_is_plain rfl ⟨.bl (decide (c = b)), H, I, by rw [e]; rfl, q⟩
theorem op_isNotB : OpR X (compareOp .IsNot) (rIsB true) := by
  intro pins s σ H x y v u Q I rx ry h
  obtain ⟨b, c, rfl, rfl, q⟩ := h
  cases rx
  cases ry
  have e : (Value.bool c == Value.bool b) = decide (c = b) := by cases b <;> cases c <;> rfl
  show wpAny _ _ ((isSame (Value.bool c) (Value.bool b)) >>= fun z => pure (Value.bool (!z))) _ _ s
  exact wpAny_bind (wpAny_isSame_plain rfl (wpAny_pure ⟨.bl (!decide (c = b)), H, I, by rw [e]; rfl, q⟩))
/-- t.index(x) of texts -/
def rTIndex (K : PySem.W.Frag) : V → List V → Hp → VK → Prop := fun x xs H Q => ∃ (a : Addr) (ys : List Str) (y : Str), x = V.ref a ∧ xs = [.str y] ∧ SqT K H a (ys.map V.str) ∧ y ∈ ys ∧ Q (.int (ys.idxOf y : Nat)) H
theorem mt_tindex : MtR X "tuple.index" (rTIndex X.K) := by
  intro pins s σ H x xs v us Q I rx rxs h
  obtain ⟨a, ys, y, rfl, rfl, hs, hy, q⟩ := h
  cases rx
  obtain ⟨its, r, ht, hz⟩ := I.tuple hs
  match us, rxs with
  | [u], .cons ru .nil =>
    obtain ⟨t, rfl⟩ := ru
    exact PySem.SeqAt.tuple_index_strs (vs := its) ht (Vals.strs r) hy ⟨.int (ys.idxOf y : Nat), H, I.tok _, ⟨_, rfl⟩, q⟩
end
end Sg

set_option Elab.async false
set_option linter.all false
set_option maxRecDepth 100000
set_option maxHeartbeats 4000000
namespace Sg
open PySem PySem.Spec PyProof.Rows L2
def spField (K : PySem.W.Frag) : Sp := fun vs H Q _ => ∃ n x d o, vs = [.str n, x, .int o] ∧ Dp K H x d ∧ ∀ H', Same H H' → Q (.bl (fieldD n d o)) H'
def spCount : Sp := fun vs H Q _ => ∃ p, p ∈ fieldT ∧ vs = [.str p.1] ∧ Q (.int (p.2.length : Int)) H
def fieldsD (ns : List Str) (ds : List PyData) (o : Int) : Bool := (ns.zip ds).all fun p => fieldD p.1 p.2 o
def recD : PyData → Bool
  | .tuple (.int o :: .str k :: h :: s :: c :: fs) => (match fieldT.lookup k with
    | some ns => decide (fs.length = ns.length) && (decide (1 ≤ o) && betwD 0 3 h && (atLeastD 1 s && counterD k c && fieldsD ns fs o))
    | none => false)
  | _ => false
theorem kind_in {k : Str} (h : strIn k kindsL = true) : ∃ ns, (k, ns) ∈ fieldT ∧ fieldT.lookup k = some ns := by
  unfold strIn at h
  rw [List.any_eq_true] at h
  obtain ⟨y, hy, e⟩ := h
  obtain rfl : y = k := of_decide_eq_true e
  have : ∀ y ∈ kindsL, (fieldT.find? (fun p => p.1 == y)).isSome = true ∧ (fieldT.lookup y).isSome = true := by decide +kernel
  have h2 := (this y hy).2
  cases e2 : fieldT.lookup y with
  | none => rw [e2] at h2; cases h2
  | some ns =>
    exact ⟨ns, PySem.mem_of_lookup e2, rfl⟩
section
variable {P : Program} {wrl : World} {K : PySem.W.Frag} {mg : Str → Option Value} {base : Heap} {f fW fA fB fT fK fC fF C CN CS aK aF : Addr} {fd fdW fdA fdB fdT fdK fdC fdF : FuncData}
theorem scIsField : FnScope ["name", "value", "order"] ["name", "value", "order"] (defScope sIsField) := ⟨rfl, rfl, rfl, by decide +kernel, rfl, by decide +kernel, by decide +kernel⟩
theorem ok_isField (F : Fun K "_is_field" "_is_field" sIsField f fd) (B : Bds mg fW) (R : RX K wrl mg aK aF) (GW : Def P wrl K mg base CX0 "is_whole" 1 ["value"] (spWhole K) fW fdW)
    (GB : Def P wrl K mg base CX0 "is_between" 2 ["value", "low", "high"] (spBetween K) fB fdB) (GT : Def P wrl K mg base CX0 "_is_told" 3 ["value"] (spTold1 K) fT fdT) :
    FnOk P wrl K mg base CX0 4 f fd ["name", "value", "order"] (spField K) := by
  obtain ⟨t1, hHo⟩ := R.gHo
  obtain ⟨t2, hNs⟩ := R.gNs
  obtain ⟨t3, hPl⟩ := R.gPl
  refine F.ok scIsField (fun vs H Q E h => ?_) (fun cdv A outer s H vs Q E hr h => ?_)
  · obtain ⟨n, x, d, o, rfl, _⟩ := h
    rfl
  · obtain ⟨n, x, d, o, rfl, hd, q⟩ := h
    have hr2 : Room 2 _ := hr.mono (by decide)
    have hr1 : Room 1 _ := hr.mono (by decide)
    obtain ⟨t, ty, _, k2, k3, _⟩ := dp_ty hd
    refine ⟨_, pss_cons (ps_if (pt_cmpR op_eq (pv 0) pe_str (nomark _)) (pss_one (ps_ret (pe_call GB.ok hr2 (by rfl) GB.mg GB.kp GB.bd .nil pass0 (pa_cons (pv 1) (pa_cons pe_int (pa_cons (pe_glob (v := .int 8) (by rfl) hNs ⟨_, rfl⟩) pa_nil)))))) pss_nil)
      (pss_cons (ps_if (pt_cmpR op_eq (pv 0) pe_str (nomark _)) (pss_one (ps_ret (pe_call GB.ok hr2 (by rfl) GB.mg GB.kp GB.bd .nil pass0 (pa_cons (pv 1) (pa_cons pe_int (pa_cons (pe_op op_sub (pe_glob (v := .int 64) (by rfl) hPl ⟨_, rfl⟩) pe_int) pa_nil)))))) pss_nil)
      (pss_cons (ps_if (pt_cmpR op_eq (pv 0) pe_str (nomark _)) (pss_one (ps_ret (pe_call GW.ok hr1 (by rfl) GW.mg GW.kp GW.bd .nil pass0 (pa_cons (pv 1) pa_nil)))) pss_nil)
      (pss_cons (ps_if (pt_cmpR op_eq (pv 0) pe_str (nomark _)) (pss_one (ps_ret (pe_call GB.ok hr2 (by rfl) GB.mg GB.kp GB.bd .nil pass0 (pa_cons (pv 1) (pa_cons pe_int (pa_cons (pe_glob (v := .int 64) (by rfl) hPl ⟨_, rfl⟩) pa_nil)))))) pss_nil)
      (pss_cons (ps_if (pt_cmpR op_eq (pv 0) pe_str (nomark _)) (pss_one (ps_ret (pe_call GB.ok hr2 (by rfl) GB.mg GB.kp GB.bd .nil pass0 (pa_cons (pv 1) (pa_cons pe_int (pa_cons (pe_op op_sub (pv 2) pe_int) pa_nil)))))) pss_nil)
      (pss_cons (ps_if (pt_cmpR op_eq (pv 0) pe_str (nomark _)) (pss_one (ps_ret (pe_call GB.ok hr2 (by rfl) GB.mg GB.kp GB.bd .nil pass0 (pa_cons (pv 1) (pa_cons pe_int (pa_cons (pe_op op_sub (pe_glob (v := .int 4) (by rfl) hHo ⟨_, rfl⟩) pe_int) pa_nil)))))) pss_nil)
      (pss_cons (ps_if (pt_cmpR op_eq (pv 0) pe_str (nomark _)) (pss_one (ps_ret (pe_callB call_isi (by rfl) B.isi boot_isi (pa_cons (pv 1) (pa_cons (pe_bltn (v := .ty "bool") (by rfl) B.bool boot_bool rfl) pa_nil))))) pss_nil)
      (pss_cons (ps_if (pt_cmpR op_eq (pv 0) pe_str (nomark _)) (pss_one (ps_ret (pe_or (pe_cmpR op_isN (pv 1) pe_non (nomark _)) (pe_one (pe_call GT.ok hr (by rfl) GT.mg GT.kp GT.bd .nil pass0 (pa_cons (pv 1) pa_nil)))))) pss_nil)
      (pss_cons (ps_if (PW.pt (pw_and (pt_cmpR op_eq (pv 0) pe_str (nomark _)) (pw_and1 (pt_cmpR op_isN (pv 1) pe_non (nomark _))))) (pss_one (ps_ret pe_bl)) pss_nil)
      (pss_one (ps_ret (pe_and (pe_callB call_isi (by rfl) B.isi boot_isi (pa_cons (pv 1) (pa_cons (pe_bltn (v := .ty "str") (by rfl) B.str boot_str rfl) pa_nil))) (pe_one (pe_cmpR op_in_seq (pv 1) (pe_tup (pa_cons pe_str (pa_cons pe_str pa_nil))) (by rfl)))))))))))))), ?_⟩
    have q0 := q H (Same.refl H)
    unfold fieldD at q q0
    refine ⟨_, rfl, rfl, _, rfl, ?_⟩
    by_cases h1 : n = "namespace"
    · rw [if_pos h1] at q0; subst h1; rw [str_eqT]
      exact iteT ⟨_, rfl, x, d, 1, 8, rfl, hd, q0⟩
    rw [if_neg h1] at q q0; rw [str_eqF h1]
    refine iteF ⟨_, rfl, rfl, _, rfl, ?_⟩
    by_cases h2 : n = "place"
    · rw [if_pos h2] at q0; subst h2; rw [str_eqT]
      exact iteT ⟨_, rfl, _, _, rfl, rfl, x, d, 0, 63, rfl, hd, q0⟩
    rw [if_neg h2] at q q0; rw [str_eqF h2]
    refine iteF ⟨_, rfl, rfl, _, rfl, ?_⟩
    by_cases h3 : n = "value"
    · rw [if_pos h3] at q0; subst h3; rw [str_eqT]
      exact iteT ⟨_, rfl, x, d, rfl, hd, q0⟩
    rw [if_neg h3] at q q0; rw [str_eqF h3]
    refine iteF ⟨_, rfl, rfl, _, rfl, ?_⟩
    by_cases h4 : n = "size"
    · rw [if_pos h4] at q0; subst h4; rw [str_eqT]
      exact iteT ⟨_, rfl, x, d, 1, 64, rfl, hd, q0⟩
    rw [if_neg h4] at q q0; rw [str_eqF h4]
    refine iteF ⟨_, rfl, rfl, _, rfl, ?_⟩
    by_cases h5 : n = "snapshot"
    · rw [if_pos h5] at q0; subst h5; rw [str_eqT]
      exact iteT ⟨_, rfl, _, rfl, _, _, rfl, rfl, x, d, 1, o - 1, rfl, hd, q0⟩
    rw [if_neg h5] at q q0; rw [str_eqF h5]
    refine iteF ⟨_, rfl, rfl, _, rfl, ?_⟩
    by_cases h6 : n = "victim"
    · rw [if_pos h6] at q0; subst h6; rw [str_eqT]
      exact iteT ⟨_, rfl, _, _, rfl, rfl, x, d, 0, 3, rfl, hd, q0⟩
    rw [if_neg h6] at q q0; rw [str_eqF h6]
    refine iteF ⟨_, rfl, rfl, _, rfl, ?_⟩
    by_cases h7 : n = "held"
    · rw [if_pos h7] at q0; subst h7; rw [str_eqT]
      exact iteT ⟨_, rfl, x, _, t, _, _, rfl, .ty "bool", ty, k2, q0⟩
    rw [if_neg h7] at q q0; rw [str_eqF h7]
    refine iteF ⟨_, rfl, rfl, _, rfl, ?_⟩
    by_cases h8 : n = "told"
    · rw [if_pos h8] at q0; subst h8; rw [str_eqT]
      refine iteT ⟨_, rfl, rfl, _, rfl, ?_⟩
      rw [dp_non hd]
      cases n3 : noneB d with
      | true => rw [n3] at q0; exact iteT q0
      | false => rw [n3] at q0; exact iteF ⟨_, rfl, x, d, rfl, hd, q0⟩
    rw [if_neg h8] at q q0; rw [str_eqF h8]
    refine iteF ⟨_, rfl, rfl, _, rfl, ?_⟩
    have last : (∀ H', Same H H' → Q (.bl (strInD ["write", "alone"] d)) H') → tAndV (tCB (rIsi K) (tCons (tVar 1) (tCons (tC (.ty "str")) tNil))) (tOp (rIn K false) (tVar 1) (tTup (tCons (tC (.str "write")) (tCons (tC (.str "alone")) tNil)))) [some (.str n), some x, some (.int o)] H Q := by
      intro q
      refine ⟨_, rfl, x, _, t, _, _, rfl, .ty "str", ty, k3, _, rfl, ?_⟩
      cases hd with
      | str z =>
        refine iteT ⟨_, rfl, by show 2 ≤ sizeLine; decide, fun tt ht => ⟨tt, _, rfl, .inr (SqT.of upd_same), rfl, rfl, ?_⟩⟩
        have e : inV (.str z) ((["write", "alone"] : List Str).map V.str) = strInD ["write", "alone"] (.str z) := inV_str
        have := q _ (same_new (o := .tup [.str "write", .str "alone"]) ht)
        rw [← e] at this
        exact this
      | non => exact iteF (q H (Same.refl H))
      | bl b => exact iteF (q H (Same.refl H))
      | int i => exact iteF (q H (Same.refl H))
      | lst h1 h2 => exact iteF (q H (Same.refl H))
      | tup h1 h2 => exact iteF (q H (Same.refl H))
    by_cases h9 : n = "way or none"
    · rw [decide_eq_true (show V.str n = V.str "way or none" by rw [h9])]
      refine iteT ⟨_, rfl, rfl, _, rfl, ?_⟩
      rw [dp_non hd]
      cases n3 : noneB d with
      | true =>
        rw [if_pos ⟨h9, n3⟩] at q0
        exact iteT q0
      | false =>
        rw [if_neg (by rintro ⟨_, z⟩; rw [n3] at z; cases z)] at q
        refine iteF ?_
        exact last q
    · rw [if_neg (by rintro ⟨z, _⟩; exact h9 z)] at q
      rw [str_eqF h9]
      refine iteF (iteF ?_)
      exact last q
end
end Sg

set_option Elab.async false
set_option linter.all false
set_option maxRecDepth 100000
set_option maxHeartbeats 4000000
namespace Sg
open PySem PySem.Spec PyProof.Rows L2
/-- what is known of the error -/
structure NV (K : PySem.W.Frag) (mg : Str → Option Value) (CN CS : Addr) : Prop where
  gN : mg "NotValid" = some (.ref CN)
  xN : PySem.W.excIn K CN [.type "ValueError", .type "Exception", .type "BaseException", .type "object"] "ValueError.__new__" = true
  kN : PySem.W.keepIn K (.ref CN) = true
  bN : PySem.W.subIn K (.ref CN) (.type "BaseException") = some true
  tN : PySem.W.typeIn K (.ref CN) = some (.type "type")
  gS : mg "SpindleError" = some (.ref CS)
  eN : PySem.W.exmOne K (.ref CN) (.ref CS) = some true
theorem ps_notValid {X : Cx} {W : WX} {p pos pos2 : Pos} {CN CS : Addr} (T : NV X.K X.mg CN CS) (hc : X.calm = true) (tk : Takes X W) (hg : Gl X "NotValid") : PS X (.Raise (some (.Call (.Name "NotValid" p) [] [] pos)) none pos2) (fun _ σ H => W (.ref CN) Option.none σ H) :=
  ps_raise hc tk (pmk_own0 PySem.F.excBase_ValueError T.xN T.gN T.kN (raises_own T.bN T.tN) hg)
theorem yesIte {σ : L2.St} {H : Hp} {A B : Hp → Prop} (h : A H) : tYes σ H (fun b H3 => if b = true then A H3 else B H3) := by
  show (if true = true then A H else B H)
  rw [if_pos rfl]; exact h
theorem nil_ {σ : L2.St} {H : Hp} {Q : List V → Hp → Prop} (h : Q [] H) : tNil σ H Q := h
section
variable {K : PySem.W.Frag} {σ : L2.St} {H1 : Hp} {D a b : Addr} {vs : List Nat} {j1 j2 : Nat} {xs ys : List V} {te : TE} {Qd : Hp → Prop}
theorem lc_zipS (bs : List Bool) (hl : xs.length = ys.length) (hlen : bs.length = xs.length) (hD : H1 D = Option.none) (hx : SqT K H1 a xs) (hy : SqT K H1 b ys) (hw : ∀ x y, wipe (((wipe σ vs).set j1 (some x)).set j2 (some y)) vs = wipe σ vs) (hz : xs.length ≤ 1000)
    (he : ∀ (i : Nat) (x y : V) (bb : Bool) (H' : Hp) (Q' : VK), xs[i]? = some x → ys[i]? = some y → bs[i]? = some bb → Same H1 H' → (∀ H'', Same H' H'' → Q' (.bl bb) H'') → te (((wipe σ vs).set j1 (some x)).set j2 (some y)) H' Q')
    (hd : ∀ H', Same H1 H' → H' D = some (.lst (bs.map V.bl)) → Qd H') :
    ∃ W : Nat → Nat → Hp → Prop, (∃ m, W 0 m (upd H1 D (.lst []))) ∧ ∀ i m H, W i m H →
      ((RZ.ItzT K a b).stop i H ∧ Qd H) ∨ ((RZ.ItzT K a b).go i H ∧ ∃ Nx : Hp → Prop, (∀ H', Nx H' → ∃ m', m' < m ∧ W (i + 1) m' H') ∧ ∀ x H', (RZ.ItzT K a b).yld i H x H' → gTup K 2 (gCons (gName j1) (gCons (gName j2) gNil)) x (wipe σ vs) H' fun σ2 H2 => wipe σ2 vs = wipe σ vs ∧ tYes σ2 H2 fun b H3 =>
        if b = true then te σ2 H3 fun y H4 => ∃ acc, H4 D = some (.lst acc) ∧ acc.length < sizeLine ∧ Nx (upd H4 D (.lst (acc ++ [y]))) else Nx H3) := by
  refine ⟨fun i m H => m = xs.length - i ∧ i ≤ xs.length ∧ Same H1 H ∧ H D = some (.lst ((bs.map V.bl).take i)), ⟨xs.length, by simp, Nat.zero_le _, same_new hD, upd_same⟩, ?_⟩
  rintro i m H ⟨rfl, hi, sm, hDl⟩
  have hxa := SqT_same sm hx
  have hyb := SqT_same sm hy
  by_cases hlt : i < xs.length
  · have hix : xs[i]? = some xs[i] := List.getElem?_eq_getElem hlt
    have hiy : ys[i]? = some (ys[i]'(by omega)) := List.getElem?_eq_getElem (by omega)
    have hib : bs[i]? = some (bs[i]'(by omega)) := List.getElem?_eq_getElem (by omega)
    refine .inr ⟨⟨xs, ys, _, _, hxa, hyb, hix, hiy⟩, fun H' => i + 1 ≤ xs.length ∧ Same H1 H' ∧ H' D = some (.lst ((bs.map V.bl).take (i + 1))), fun H' p' => ⟨xs.length - (i + 1), by omega, rfl, p'⟩, ?_⟩
    rintro x H' ⟨T, x0, y0, rfl, hT, rfl, f1, f2⟩
    have e1 := f1 _ hxa
    have e2 := f2 _ hyb
    have s2 := same_new (o := .tup [x0, y0]) hT
    refine ⟨T, _, rfl, SqT.of upd_same, rfl, _, _, rfl, _, _, rfl, rfl, hw _ _, yesIte ?_⟩
    refine he i x0 y0 _ _ _ e1 e2 hib (sm.trans s2) fun H'' s3 => ⟨_, s3 _ _ (s2 _ _ hDl), ?_, by omega, ?_, ?_⟩
    · rw [List.length_take]; exact small1000 (by omega)
    · intro y o hy'
      rw [upd_ne (ne_of_none hy' hD)]
      exact s3 _ _ (s2 _ _ (sm _ _ hy'))
    · rw [upd_same, List.take_add_one, List.getElem?_map, hib]; rfl
  · have e : i = xs.length := by omega
    refine .inl ⟨⟨xs, ys, hxa, hyb, .inl (by omega)⟩, hd H sm ?_⟩
    rw [hDl, e, List.take_of_length_le (by rw [List.length_map]; omega)]
end
def spIsRec (K : PySem.W.Frag) : Sp := fun vs H Q _ => ∃ x d, vs = [x] ∧ Dp K H x d ∧ ∀ H', Same H H' → Q (.bl (recD d)) H'
/-- the slice of the head, of what is behind it -/
theorem cut_head {x1 x2 x3 x4 x5 : V} {r : List V} : cutV (x1 :: x2 :: x3 :: x4 :: x5 :: r) Option.none (some 5) = [x1, x2, x3, x4, x5] := by
  unfold cutV
  rw [show HT.sIx (x1 :: x2 :: x3 :: x4 :: x5 :: r).length 0 none = 0 from HT.sIx_none _ _, show (some (5 : Int)) = some ((5 : Nat) : Int) from rfl, HT.sIx_nat]
  rw [Nat.min_eq_left (by simp only [List.length_cons]; omega)]
  rfl
theorem cut_tail {x1 x2 x3 x4 x5 : V} {r : List V} : cutV (x1 :: x2 :: x3 :: x4 :: x5 :: r) (some 5) Option.none = r := by
  unfold cutV
  rw [show HT.sIx (x1 :: x2 :: x3 :: x4 :: x5 :: r).length (x1 :: x2 :: x3 :: x4 :: x5 :: r).length none = (x1 :: x2 :: x3 :: x4 :: x5 :: r).length from HT.sIx_none _ _, show (some (5 : Int)) = some ((5 : Nat) : Int) from rfl, HT.sIx_nat]
  rw [Nat.min_eq_left (by simp only [List.length_cons]; omega)]
  show (r.take _) = r
  exact List.take_of_length_le (by simp only [List.length_cons]; omega)
section
variable {P : Program} {wrl : World} {K : PySem.W.Frag} {mg : Str → Option Value} {base : Heap} {f fW fA fB fT fK fC fF fN CN CS aK aF : Addr} {fd fdW fdA fdB fdT fdK fdC fdF fdN : FuncData}
theorem scCount : FnScope ["kind"] ["kind"] (defScope sCount) := ⟨rfl, rfl, rfl, by decide +kernel, rfl, by decide +kernel, by decide +kernel⟩
theorem ok_count (F : Fun K "field_count" "field_count" sCount f fd) (T : NV K mg CN CS) (R : RX K wrl mg aK aF) (hlen : mg "len" = none) (GK : Def P wrl K mg base CX0 "_is_kind" 1 ["value"] (spKindQ K) fK fdK) :
    FnOk P wrl K mg base (L2.CX P wrl) 2 f fd ["kind"] spCount := by
  refine F.okX scCount (fun vs H Q E h => ?_) (fun cdv A outer s H vs Q E hr h => ?_)
  · obtain ⟨p, _, rfl, _⟩ := h
    rfl
  · obtain ⟨p, hp, rfl, q⟩ := h
    refine ⟨_, pss_cons (ps_if (pt_not (pt_val (pe_call GK.ok hr (by rfl) GK.mg GK.kp GK.bd .nil pass0 (pa_cons (pv 0) pa_nil)))) (pss_one (ps_notValid T rfl (takes_of rfl rfl rfl rfl) (by rfl))) pss_nil)
      (pss_one (ps_ret (pe_callB call_len_seq (by rfl) hlen PySem.boot_len (pa_cons (pe_ix ix_kdict (pe_glob (v := .ref aF) (by rfl) R.gF rfl) (pv 0) (fun _ _ => rfl)) pa_nil)))), ?_⟩
    have hk : strInD kindsL (.str p.1) = true := by
      have : ∀ p ∈ fieldT, strIn p.1 kindsL = true := by decide +kernel
      exact this p hp
    obtain ⟨a, ka, sa⟩ := R.fT p hp
    refine ⟨_, rfl, _, .str p.1, rfl, .str _, _, rfl, ?_⟩
    rw [hk]
    refine iteF ⟨_, rfl, aF, p.1, .ref a, rfl, rfl, ka, a, _, rfl, .inr (sa H), ?_⟩
    rw [List.length_map]
    exact q
end
end Sg

set_option Elab.async false
set_option linter.all false
set_option maxRecDepth 100000
set_option maxHeartbeats 4000000
namespace Sg
open PySem PySem.Spec PyProof.Rows L2
theorem zip_bs {ns : List Str} {fs : List PyData} {o : Int} : ((ns.zip fs).map fun p => fieldD p.1 p.2 o).all id = fieldsD ns fs o := by
  unfold fieldsD
  rw [List.all_map]; rfl
theorem dpAll_get {K : PySem.W.Frag} {H : Hp} : ∀ {xs : List V} {ds : List PyData} {i : Nat} {x : V}, DpAll K H xs ds → xs[i]? = some x → ∃ d, ds[i]? = some d ∧ Dp K H x d
  | _, _, i, x, .nil, h => by simp at h
  | _, _, 0, x, .cons a b, h => ⟨_, rfl, by simp at h; subst h; exact a⟩
  | _, _, i + 1, x, .cons a b, h => by
    obtain ⟨d, e1, e2⟩ := dpAll_get b (i := i) (by simpa using h)
    exact ⟨d, by simpa using e1, e2⟩
theorem dpAll_5 {K : PySem.W.Frag} {H : Hp} {xs : List V} {ds : List PyData} (h : DpAll K H xs ds) (h5 : ¬ ds.length < 5) : ∃ x1 x2 x3 x4 x5 ys d1 d2 d3 d4 d5 fs, xs = x1 :: x2 :: x3 :: x4 :: x5 :: ys ∧ ds = d1 :: d2 :: d3 :: d4 :: d5 :: fs ∧ Dp K H x1 d1 ∧ Dp K H x2 d2 ∧ Dp K H x3 d3 ∧ Dp K H x4 d4 ∧ Dp K H x5 d5 ∧ DpAll K H ys fs := by
  match ds, h5 with
  | [], h => exact absurd (show (0 : Nat) < 5 by decide) h
  | [_], h => exact absurd (show (1 : Nat) < 5 by decide) h
  | [_, _], h => exact absurd (show (2 : Nat) < 5 by decide) h
  | [_, _, _], h => exact absurd (show (3 : Nat) < 5 by decide) h
  | [_, _, _, _], h => exact absurd (show (4 : Nat) < 5 by decide) h
  | d1 :: d2 :: d3 :: d4 :: d5 :: fs, _ =>
    obtain ⟨x1, r1, rfl, a1, b1⟩ := dpAll_cons h
    obtain ⟨x2, r2, rfl, a2, b2⟩ := dpAll_cons b1
    obtain ⟨x3, r3, rfl, a3, b3⟩ := dpAll_cons b2
    obtain ⟨x4, r4, rfl, a4, b4⟩ := dpAll_cons b3
    obtain ⟨x5, r5, rfl, a5, b5⟩ := dpAll_cons b4
    exact ⟨_, _, _, _, _, _, _, _, _, _, _, _, rfl, rfl, a1, a2, a3, a4, a5, b5⟩
theorem rec_eq {k : Str} {ns : List Str} {o : Int} {d3 d4 d5 : PyData} {fs : List PyData} (h : fieldT.lookup k = some ns) :
    recD (.tuple (.int o :: .str k :: d3 :: d4 :: d5 :: fs)) = (decide (fs.length = ns.length) && (decide (1 ≤ o) && betwD 0 3 d3 && (atLeastD 1 d4 && counterD k d5 && fieldsD ns fs o))) := by
  show (match fieldT.lookup k with
    | some ns => decide (fs.length = ns.length) && (decide (1 ≤ o) && betwD 0 3 d3 && (atLeastD 1 d4 && counterD k d5 && fieldsD ns fs o))
    | none => false) = _
  rw [h]
theorem in_kinds {k : Str} {ns : List Str} (h : fieldT.lookup k = some ns) : strIn k kindsL = true := by
  have : ∀ p ∈ fieldT, strIn p.1 kindsL = true := by decide +kernel
  exact this _ (PySem.mem_of_lookup h)
theorem rec_nokind {d1 d2 d3 d4 d5 : PyData} {fs : List PyData} (h : strInD kindsL d2 = false) : recD (.tuple (d1 :: d2 :: d3 :: d4 :: d5 :: fs)) = false := by
  cases d2 with
  | str k =>
    cases d1 with
    | int o =>
      show (match fieldT.lookup k with
        | some ns => decide (fs.length = ns.length) && (decide (1 ≤ o) && betwD 0 3 d3 && (atLeastD 1 d4 && counterD k d5 && fieldsD ns fs o))
        | none => false) = false
      cases e : fieldT.lookup k with
      | none => rfl
      | some ns =>
        have := in_kinds e
        rw [show strInD kindsL (.str k) = strIn k kindsL from rfl, this] at h
        cases h
    | _ => rfl
  | _ => cases d1 <;> rfl
theorem rec_noint {d1 d2 d3 d4 d5 : PyData} {fs : List PyData} (h : atLeastD 1 d1 = false) : recD (.tuple (d1 :: d2 :: d3 :: d4 :: d5 :: fs)) = false := by
  cases d1 with
  | int o =>
    cases d2 with
    | str k =>
      show (match fieldT.lookup k with
        | some ns => decide (fs.length = ns.length) && (decide (1 ≤ o) && betwD 0 3 d3 && (atLeastD 1 d4 && counterD k d5 && fieldsD ns fs o))
        | none => false) = false
      have h' : decide ((1 : Int) ≤ o) = false := h
      cases e : fieldT.lookup k with
      | none => rfl
      | some ns => simp only [h', Bool.false_and, Bool.and_false]
    | _ => rfl
  | _ => cases d2 <;> rfl
theorem rec_short {ds : List PyData} (h : ds.length < 5) : recD (.tuple ds) = false := by
  match ds, h with
  | [], _ => rfl
  | [d], _ => cases d <;> rfl
  | [d, e], _ => cases d <;> cases e <;> rfl
  | [d, e, _], _ => cases d <;> cases e <;> rfl
  | [d, e, _, _], _ => cases d <;> cases e <;> rfl
theorem dp_str {K : PySem.W.Frag} {H : Hp} {x : V} {d : PyData} {ns : List Str} (h : Dp K H x d) (w : strInD ns d = true) : ∃ k, x = .str k ∧ d = .str k ∧ strIn k ns = true := by
  cases h <;> first | exact ⟨_, rfl, rfl, w⟩ | cases w
section
variable {P : Program} {wrl : World} {K : PySem.W.Frag} {mg : Str → Option Value} {base : Heap} {f fW fA fB fT fK fC fF fN CN CS aK aF : Addr} {fd fdW fdA fdB fdT fdK fdC fdF fdN : FuncData}
abbrev RN : List Str := ["value", "order", "kind", "host", "session", "counter", "name", "field"]
theorem scIsRec : FnScope RN ["value"] (defScope sIsRec) := ⟨rfl, rfl, rfl, by decide +kernel, rfl, by decide +kernel, by decide +kernel⟩
theorem ok_isRec (F : Fun K "is_record" "is_record" sIsRec f fd) (B : Bds mg fW) (R : RX K wrl mg aK aF) (hlen : mg "len" = none) (hall : mg "all" = none) (hzip : mg "zip" = none)
    (GA : Def P wrl K mg base CX0 "is_at_least" 2 ["value", "low"] (spAtLeast K) fA fdA) (GB : Def P wrl K mg base CX0 "is_between" 2 ["value", "low", "high"] (spBetween K) fB fdB)
    (GK : Def P wrl K mg base CX0 "_is_kind" 1 ["value"] (spKindQ K) fK fdK) (GC : Def P wrl K mg base CX0 "_is_counter" 3 ["value", "kind"] (spCounter K) fC fdC)
    (GF : Def P wrl K mg base CX0 "_is_field" 4 ["name", "value", "order"] (spField K) fF fdF) (GN : Def P wrl K mg base (L2.CX P wrl) "field_count" 2 ["kind"] spCount fN fdN) :
    FnOk P wrl K mg base CX0 5 f fd ["value"] (spIsRec K) := by
  obtain ⟨t0, hHd⟩ := R.gHd
  obtain ⟨t1, hHo⟩ := R.gHo
  refine F.ok scIsRec (fun vs H Q E h => ?_) (fun cdv A outer s H vs Q E hr h => ?_)
  · obtain ⟨x, d, rfl, _⟩ := h
    rfl
  · obtain ⟨x, d, rfl, hd, q⟩ := h
    have hr3 : Room 3 _ := hr.mono (by decide)
    have hr2 : Room 2 _ := hr.mono (by decide)
    have hr1 : Room 1 _ := hr.mono (by decide)
    obtain ⟨t, ty, _, _, _, h4, _⟩ := dp_ty hd
    refine ⟨_, pss_cons (ps_if (PW.pt (pw_or (pt_not (pt_val (pe_callB call_isi (by rfl) B.isi boot_isi (pa_cons (pv 0) (pa_cons (pe_bltn (v := .ty "tuple") (by rfl) B.tup boot_tuple rfl) pa_nil))))) (pw_or1 (pt_cmpR op_lt (pe_callB call_len_seq (by rfl) hlen PySem.boot_len (pa_cons (pv 0) pa_nil)) (pe_glob (v := .int 5) (by rfl) hHd ⟨_, rfl⟩) (nomark _))))) (pss_one (ps_ret pe_bl)) pss_nil)
      (pss_cons (ps_asg (pe_slice sl_any (pv 0) po_none (po_some (pe_glob (v := .int 5) (by rfl) hHd ⟨_, rfl⟩))) (pg_tup (by rfl) (pgs_cons (pg_name (i := 1) scIsRec.nd rfl (Or.inr rfl)) (pgs_cons (pg_name (i := 2) scIsRec.nd rfl (Or.inl rfl)) (pgs_cons (pg_name (i := 3) scIsRec.nd rfl (Or.inl rfl)) (pgs_cons (pg_name (i := 4) scIsRec.nd rfl (Or.inl rfl)) (pgs_cons (pg_name (i := 5) scIsRec.nd rfl (Or.inl rfl)) L2.pgs_nil)))))))
      (pss_cons (ps_if (PW.pt (pw_or (pt_not (pt_val (pe_call GK.ok hr1 (by rfl) GK.mg GK.kp GK.bd .nil pass0 (pa_cons (pv 2) pa_nil)))) (pw_or1 (pt_cmpR op_ne (pe_callB call_len_seq (by rfl) hlen PySem.boot_len (pa_cons (pv 0) pa_nil)) (pe_op op_add (pe_glob (v := .int 5) (by rfl) hHd ⟨_, rfl⟩) (pe_call GN.ok hr2 (by rfl) GN.mg GN.kp GN.bd .nil passL (pa_cons (pv 2) pa_nil))) (nomark _))))) (pss_one (ps_ret pe_bl)) pss_nil)
      (pss_cons (ps_if (PW.pt (pw_or (pt_not (pt_val (pe_call GA.ok hr2 (by rfl) GA.mg GA.kp GA.bd .nil pass0 (pa_cons (pv 1) (pa_cons pe_int pa_nil))))) (pw_or1 (pt_not (pt_val (pe_call GB.ok hr2 (by rfl) GB.mg GB.kp GB.bd .nil pass0 (pa_cons (pv 3) (pa_cons pe_int (pa_cons (pe_op op_sub (pe_glob (v := .int 4) (by rfl) hHo ⟨_, rfl⟩) pe_int) pa_nil))))))))) (pss_one (ps_ret pe_bl)) pss_nil)
      (pss_cons (ps_if (PW.pt (pw_or (pt_not (pt_val (pe_call GA.ok hr2 (by rfl) GA.mg GA.kp GA.bd .nil pass0 (pa_cons (pv 4) (pa_cons pe_int pa_nil))))) (pw_or1 (pt_not (pt_val (pe_call GC.ok hr3 (by rfl) GC.mg GC.kp GC.bd .nil pass0 (pa_cons (pv 5) (pa_cons (pv 2) pa_nil)))))))) (pss_one (ps_ret pe_bl)) pss_nil)
      (pss_one (ps_ret (pe_callB (cr_all rfl) (by rfl) hall (by decide +kernel) (pa_cons (pe_lc (own := [("name", 6), ("field", 7)]) (g := gTup K 2 (gCons (gName 6) (gCons (gName 7) gNil))) (tt := tYes) (te := tCall (spField K) [] E0 (tCons (tVar 6) (tCons (tVar 7) (tCons (tVar 1) tNil)))) (by rfl) scIsRec.nd
          (RZ.pi_zipA (by rfl) hzip (pa_cons (pe_ix ix_kdict (pe_glob (v := .ref aF) (by rfl) R.gF rfl) (pv 2) (fun _ _ => rfl)) (pa_cons (pe_slice sl_any (pv 0) (po_some (pe_glob (v := .int 5) (by rfl) hHd ⟨_, rfl⟩)) po_none) pa_nil)))
          (blkOk_by (own := [("name", 6), ("field", 7)]) (N := RN) (sc := defScope sIsRec) (by decide +kernel)) (fun _ _ _ _ _ => pg_tup (by rfl) (pgs_cons (pg_name (i := 6) scIsRec.nd rfl (Or.inl rfl)) (pgs_cons (pg_name (i := 7) scIsRec.nd rfl (Or.inl rfl)) L2.pgs_nil))) (fun _ _ _ _ _ => pts_nil)
          (fun _ _ _ _ _ => by exact (pe_call GF.ok hr (by rfl) GF.mg GF.kp GF.bd .nil pass0 (pa_cons (pv 6) (pa_cons (pv 7) (pa_cons (pv 1) pa_nil)))))) pa_nil)))))))), ?_⟩
    refine ⟨_, rfl, x, _, t, _, _, rfl, .ty "tuple", ty, h4, _, rfl, ?_⟩
    have q0 := q H (Same.refl H)
    cases ht : tupB d with
    | false =>
      have e : recD d = false := by cases d <;> first | rfl | cases ht
      rw [e] at q0
      exact iteT (iteT q0)
    | true =>
      refine iteF ?_
      obtain ⟨a, xs, ds, rfl, rfl, hs, ha⟩ := dp_tup hd ht
      have hl := dpAll_len ha
      refine ⟨_, rfl, a, xs, rfl, .inr hs, _, _, rfl, rfl, _, rfl, ?_⟩
      by_cases h5 : ds.length < 5
      · rw [rec_short h5] at q0
        rw [decide_eq_true (show (xs.length : Int) < 5 by omega)]
        exact iteT q0
      rw [decide_eq_false (show ¬ (xs.length : Int) < 5 by omega)]
      refine iteF ?_
      obtain ⟨x1, x2, x3, x4, x5, ys, d1, d2, d3, d4, d5, fs, rfl, rfl, e1, e2, e3, e4, e5, e6⟩ := dpAll_5 ha h5
      refine ⟨_, rfl, 5, rfl, a, _, rfl, hs, fun p H1 s1 hp => ?_⟩
      rw [cut_head] at hp
      refine ⟨p, _, rfl, hp, rfl, _, _, rfl, _, _, rfl, _, _, rfl, _, _, rfl, _, _, rfl, rfl, ?_⟩
      have hs1 := SqT_same s1 hs
      have q1 := q H1 s1
      refine ⟨_, rfl, x2, d2, rfl, dp_same s1 _ _ e2, _, rfl, ?_⟩
      cases hk : strInD kindsL d2 with
      | false =>
        rw [rec_nokind hk] at q1
        exact iteT (iteT q1)
      | true =>
        refine iteF ?_
        obtain ⟨k, rfl, rfl, hk'⟩ := dp_str e2 hk
        obtain ⟨ns, hmem, hlook⟩ := kind_in hk'
        obtain ⟨a', ka, sa⟩ := R.fT _ hmem
        have hl6 := dpAll_len e6
        refine ⟨_, rfl, a, _, rfl, .inr hs1, _, rfl, (k, ns), hmem, rfl, _, _, rfl, rfl, rfl, _, rfl, ?_⟩
        by_cases hfl : fs.length = ns.length
        · rw [decide_eq_true (show V.int (((x1 :: V.str k :: x3 :: x4 :: x5 :: ys).length : Nat) : Int) = V.int (5 + (ns.length : Int)) by
            simp only [List.length_cons]; congr 1; omega)]
          refine iteF ?_
          refine ⟨_, rfl, x1, d1, 1, rfl, dp_same s1 _ _ e1, _, rfl, ?_⟩
          cases b1 : atLeastD 1 d1 with
          | false =>
            rw [rec_noint b1] at q1
            exact iteT (iteT q1)
          | true =>
            obtain ⟨o, rfl, rfl⟩ : ∃ o, x1 = .int o ∧ d1 = .int o := by
              cases e1 <;> first | exact ⟨_, rfl, rfl⟩ | cases b1
            rw [rec_eq hlook, decide_eq_true hfl, show decide ((1 : Int) ≤ o) = true from b1] at q q1
            refine iteF ⟨_, rfl, _, _, rfl, rfl, x3, d3, 0, 3, rfl, dp_same s1 _ _ e3, _, rfl, ?_⟩
            have q2 : Q (.bl (betwD 0 3 d3 && (atLeastD 1 d4 && counterD k d5 && fieldsD ns fs o))) H1 := q1
            cases b3 : betwD 0 3 d3 with
            | false =>
              rw [b3] at q2
              exact iteT q2
            | true =>
              rw [b3] at q2 q
              refine iteF ⟨_, rfl, x4, d4, 1, rfl, dp_same s1 _ _ e4, _, rfl, ?_⟩
              cases b4 : atLeastD 1 d4 with
              | false =>
                rw [b4] at q2
                exact iteT (iteT q2)
              | true =>
                rw [b4] at q2 q
                refine iteF ⟨_, rfl, _, rfl, x5, d5, k, rfl, dp_same s1 _ _ e5, _, rfl, ?_⟩
                cases b5 : counterD k d5 with
                | false =>
                  rw [b5] at q2
                  exact iteT q2
                | true =>
                  rw [b5] at q
                  refine iteF ?_
                  have q3 : ∀ H', Same H H' → Q (.bl (fieldsD ns fs o)) H' := q
                  refine ⟨_, rfl, aF, k, .ref a', rfl, rfl, ka, _, rfl, 5, rfl, a, _, rfl, hs1, fun p2 H2 s2 hp2 => ?_⟩
                  rw [cut_tail] at hp2
                  refine ⟨a', p2, ns.map V.str, ys, rfl, .inr ⟨sa H2, hp2, fun D hD => ?_⟩⟩
                  have hns : ns.length ≤ 1000 := by
                    have : ∀ p ∈ fieldT, p.2.length ≤ 1000 := by decide +kernel
                    exact this _ hmem
                  refine lc_zipS ((ns.zip fs).map fun p => fieldD p.1 p.2 o) (by rw [List.length_map]; show ns.length = ys.length; omega) (by rw [List.length_map, List.length_map, List.length_zip]; show min ns.length fs.length = ns.length; omega) hD (sa H2) hp2 (fun _ _ => rfl) (by rw [List.length_map]; exact hns) (fun i x y bb H' Q' hx hy hb s3 k3 => ?_) fun H3 s3 hDl => ?_
                  · obtain ⟨n, hn, rfl⟩ := map_get hx
                    have e6' := dpAll_same ((s1.trans s2).trans s3) _ _ e6
                    obtain ⟨dd, hdd, hdp⟩ := dpAll_get e6' hy
                    rw [List.getElem?_map, List.getElem?_zip_eq_some.mpr (by exact ⟨hn, hdd⟩ : ns[i]? = some (n, dd).1 ∧ fs[i]? = some (n, dd).2)] at hb
                    have hb' : fieldD n dd o = bb := by simpa using hb
                    refine ⟨_, rfl, _, rfl, _, rfl, n, y, dd, o, rfl, hdp, fun H'' s4 => ?_⟩
                    rw [hb']
                    exact k3 H'' s4
                  · refine ⟨D, _, rfl, SqL.of hDl, ?_⟩
                    rw [zip_bs]
                    exact q3 H3 ((s1.trans s2).trans s3)
        · rw [decide_eq_false (show ¬ V.int (((x1 :: V.str k :: x3 :: x4 :: x5 :: ys).length : Nat) : Int) = V.int (5 + (ns.length : Int)) by
            intro z; injection z with z; simp only [List.length_cons] at z; omega)]
          have e : recD (.tuple (d1 :: .str k :: d3 :: d4 :: d5 :: fs)) = false := by
            cases d1 with
            | int o => rw [rec_eq hlook, decide_eq_false hfl]; rfl
            | _ => rfl
          rw [e] at q1
          exact iteT q1
end
end Sg

set_option Elab.async false
set_option linter.all false
set_option maxRecDepth 100000
set_option maxHeartbeats 4000000
namespace Sg
open PySem PySem.Spec PyProof.Rows L2
def spMake (K : PySem.W.Frag) (CN : Addr) : Sp := fun vs H Q E => ∃ (x1 x2 x3 x4 x5 : V) (a : Addr) (ys : List V) (d1 d2 d3 d4 d5 : PyData) (fs : List PyData), vs = [x1, x2, x3, x4, x5, .ref a] ∧ H a = some (.lst ys) ∧ ys.length ≤ 100 ∧
  Dp K H x1 d1 ∧ Dp K H x2 d2 ∧ Dp K H x3 d3 ∧ Dp K H x4 d4 ∧ Dp K H x5 d5 ∧ DpAll K H ys fs ∧
  (recD (.tuple (d1 :: d2 :: d3 :: d4 :: d5 :: fs)) = false → ∀ H', Same H H' → E (.ref CN) Option.none H') ∧
  (recD (.tuple (d1 :: d2 :: d3 :: d4 :: d5 :: fs)) = true → ∀ t H', Same H H' → H' t = some (.tup (x1 :: x2 :: x3 :: x4 :: x5 :: ys)) → Q (.ref t) H')
def spFieldsOf (K : PySem.W.Frag) : Sp := fun vs H Q _ => ∃ (a : Addr) (x1 x2 x3 x4 x5 : V) (ys : List V), vs = [.ref a] ∧ SqT K H a (x1 :: x2 :: x3 :: x4 :: x5 :: ys) ∧ ∀ p H', Same H H' → SqT K H' p ys → Q (.ref p) H'
/-- the answer of a record, as data -/
def answD (k : Str) (o : Int) : PyData := if k = "mark" then .none else if strIn k ["snap", "register"] = true then .tuple [.str "ok", .int o] else .tuple [.str "ok", .none]
def spAnswer (K : PySem.W.Frag) : Sp := fun vs H Q _ => ∃ (o : Int) (k : Str), vs = [.int o, .str k] ∧ ∀ v H', Same H H' → Dp K H' v (answD k o) → Q v H'
def spAnswerOf (K : PySem.W.Frag) : Sp := fun vs H Q _ => ∃ (a : Addr) (o : Int) (k : Str) (r : List V), vs = [.ref a] ∧ SqT K H a (.int o :: .str k :: r) ∧ ∀ v H', Same H H' → Dp K H' v (answD k o) → Q v H'
theorem cut_two {x1 x2 : V} {r : List V} : cutV (x1 :: x2 :: r) Option.none (some 2) = [x1, x2] := by
  unfold cutV
  rw [show HT.sIx (x1 :: x2 :: r).length 0 none = 0 from HT.sIx_none _ _, show (some (2 : Int)) = some ((2 : Nat) : Int) from rfl, HT.sIx_nat]
  rw [Nat.min_eq_left (by simp only [List.length_cons]; omega)]
  rfl
theorem kit_any {K : PySem.W.Frag} : PySem.W.kitAny K (.type "list") [.type "list", .type "tuple"] = some true := by
  first | rfl | decide +kernel | (unfold PySem.W.kitAny; rw [show PySem.W.kitOne K (.type "list") (.type "list") = some true from kit_ty (by decide +kernel)]; rfl)
section
variable {P : Program} {wrl : World} {K : PySem.W.Frag} {mg : Str → Option Value} {base : Heap} {f fW fR CN CS aK aF : Addr} {fd fdW fdR : FuncData}
abbrev MN : List Str := ["order", "kind", "host", "session", "counter", "fields", "record"]
theorem scMake : FnScope MN ["order", "kind", "host", "session", "counter", "fields"] (defScope sMake) := ⟨rfl, rfl, rfl, by decide +kernel, rfl, by decide +kernel, by decide +kernel⟩
theorem ok_make (F : Fun K "make_record" "make_record" sMake f fd) (B : Bds mg fW) (T : NV K mg CN CS) (GR : Def P wrl K mg base CX0 "is_record" 5 ["value"] (spIsRec K) fR fdR) :
    FnOk P wrl K mg base (L2.CX P wrl) 6 f fd ["order", "kind", "host", "session", "counter", "fields"] (spMake K CN) := by
  refine F.okX scMake (fun vs H Q E h => ?_) (fun cdv A outer s H vs Q E hr h => ?_)
  · obtain ⟨x1, x2, x3, x4, x5, a, ys, d1, d2, d3, d4, d5, fs, rfl, _⟩ := h
    rfl
  · obtain ⟨x1, x2, x3, x4, x5, a, ys, d1, d2, d3, d4, d5, fs, rfl, ha, hlen, e1, e2, e3, e4, e5, e6, k0, k1⟩ := h
    refine ⟨_, pss_cons (ps_if (pt_not (pt_val (pe_callB call_isiT (by rfl) B.isi boot_isi (pa_cons (pv 5) (pa_cons (pe_tup (pa_cons (pe_bltn (v := .ty "list") (by rfl) B.lst boot_list rfl) (pa_cons (pe_bltn (v := .ty "tuple") (by rfl) B.tup boot_tuple rfl) pa_nil))) pa_nil))))) (pss_one (ps_notValid T rfl (takes_of rfl rfl rfl rfl) (by rfl))) pss_nil)
      (pss_cons (ps_set (i := 6) scMake.nd rfl (Or.inl rfl) (pe_tup (pa_cons (pv 0) (pa_cons (pv 1) (pa_cons (pv 2) (pa_cons (pv 3) (pa_cons (pv 4) (StX.pa_star (pv 5) pa_nil))))))))
      (pss_cons (ps_if (pt_not (pt_val (pe_call GR.ok hr (by rfl) GR.mg GR.kp GR.bd .nil pass0 (pa_cons (pv 6) pa_nil)))) (pss_one (ps_notValid T rfl (takes_of rfl rfl rfl rfl) (by rfl))) pss_nil)
      (pss_one (ps_ret (pv 6))))), ?_⟩
    refine ⟨_, rfl, by show 2 ≤ sizeLine; decide, fun tt htt => ?_⟩
    have s1 := same_new (o := .tup [.ty "list", .ty "tuple"]) htt
    refine ⟨.ref a, tt, _, .type "list", [.type "list", .type "tuple"], true, rfl, upd_same, .cons (.ty "list") (.cons (.ty "tuple") .nil), .base (.lst (s1 _ _ ha)), kit_any, true, rfl, iteF ?_⟩
    refine ⟨_, rfl, _, rfl, _, rfl, _, rfl, _, rfl, _, rfl, a, ys, rfl, .inr (SqL.of (s1 _ _ ha)), ?_, fun t ht => ?_⟩
    · show ([x1, x2, x3, x4, x5] ++ (ys ++ [])).length ≤ sizeLine
      rw [List.append_nil, List.length_append]
      exact Nat.le_of_lt (small1000 (by simp only [List.length_cons, List.length_nil]; omega))
    rw [List.append_nil ys]
    have s2 := same_new (o := .tup (x1 :: x2 :: x3 :: x4 :: x5 :: ys)) ht
    have s12 := s1.trans s2
    have hdp : Dp K (upd (upd H tt (.tup [.ty "list", .ty "tuple"])) t (.tup (x1 :: x2 :: x3 :: x4 :: x5 :: ys))) (.ref t) (.tuple (d1 :: d2 :: d3 :: d4 :: d5 :: fs)) :=
      .tup (SqT.of upd_same) (.cons (dp_same s12 _ _ e1) (.cons (dp_same s12 _ _ e2) (.cons (dp_same s12 _ _ e3) (.cons (dp_same s12 _ _ e4) (.cons (dp_same s12 _ _ e5) (dpAll_same s12 _ _ e6))))))
    refine ⟨_, rfl, _, _, rfl, hdp, fun H3 s3 => ⟨_, rfl, ?_⟩⟩
    cases hb : recD (.tuple (d1 :: d2 :: d3 :: d4 :: d5 :: fs)) with
    | false => exact iteT (k0 hb H3 (s12.trans s3))
    | true => exact iteF ⟨_, rfl, k1 hb t H3 (s12.trans s3) (s3 _ _ upd_same)⟩
theorem scFieldsOf : FnScope ["record"] ["record"] (defScope sFieldsOf) := ⟨rfl, rfl, rfl, by decide +kernel, rfl, by decide +kernel, by decide +kernel⟩
theorem ok_fieldsOf (F : Fun K "fields_of" "fields_of" sFieldsOf f fd) (R : RX K wrl mg aK aF) : FnOk P wrl K mg base CX0 1 f fd ["record"] (spFieldsOf K) := by
  obtain ⟨t0, hHd⟩ := R.gHd
  refine F.ok scFieldsOf (fun vs H Q E h => ?_) (fun cdv A outer s H vs Q E hr h => ?_)
  · obtain ⟨a, x1, x2, x3, x4, x5, ys, rfl, _⟩ := h
    rfl
  · obtain ⟨a, x1, x2, x3, x4, x5, ys, rfl, hs, q⟩ := h
    refine ⟨_, pss_one (ps_ret (pe_slice sl_any (pv 0) (po_some (pe_glob (v := .int 5) (by rfl) hHd ⟨_, rfl⟩)) po_none)), ?_⟩
    refine ⟨_, rfl, 5, rfl, a, _, rfl, hs, fun p H' s' hp => ?_⟩
    rw [cut_tail] at hp
    exact q p H' s' hp
theorem scAnswerOf : FnScope ["record", "order", "kind"] ["record"] (defScope sAnswerOf) := ⟨rfl, rfl, rfl, by decide +kernel, rfl, by decide +kernel, by decide +kernel⟩
theorem ok_answerOf (F : Fun K "answer_of" "answer_of" sAnswerOf f fd) : FnOk P wrl K mg base CX0 1 f fd ["record"] (spAnswerOf K) := by
  refine F.ok scAnswerOf (fun vs H Q E h => ?_) (fun cdv A outer s H vs Q E hr h => ?_)
  · obtain ⟨a, o, k, r, rfl, _⟩ := h
    rfl
  · obtain ⟨a, o, k, r, rfl, hs, q⟩ := h
    refine ⟨_, pss_cons (ps_asg (pe_slice sl_any (pv 0) po_none (po_some pe_int)) (pg_tup (by rfl) (pgs_cons (pg_name (i := 1) scAnswerOf.nd rfl (Or.inl rfl)) (pgs_cons (pg_name (i := 2) scAnswerOf.nd rfl (Or.inl rfl)) L2.pgs_nil))))
      (pss_cons (ps_if (pt_cmpR op_eq (pv 2) pe_str (nomark _)) (pss_one (ps_ret pe_non)) pss_nil)
      (pss_cons (ps_if (pt_cmpR op_in_seq (pv 2) (pe_tup (pa_cons pe_str (pa_cons pe_str pa_nil))) (by rfl)) (pss_one (ps_ret (pe_tup (pa_cons pe_str (pa_cons (pv 1) pa_nil))))) pss_nil)
      (pss_one (ps_ret (pe_tup (pa_cons pe_str (pa_cons pe_non pa_nil))))))), ?_⟩
    refine ⟨_, rfl, 2, rfl, a, _, rfl, hs, fun p H1 s1 hp => ?_⟩
    rw [cut_two] at hp
    refine ⟨p, _, rfl, hp, rfl, _, _, rfl, _, _, rfl, rfl, ?_⟩
    refine ⟨_, rfl, rfl, _, rfl, ?_⟩
    by_cases hk : k = "mark"
    · subst hk
      rw [str_eqT]
      refine iteT ?_
      exact q .non H1 s1 .non
    · rw [str_eqF hk]
      refine iteF ⟨_, rfl, by show 2 ≤ sizeLine; decide, fun tt htt => ?_⟩
      have s2 := same_new (o := .tup [.str "snap", .str "register"]) htt
      have e : inV (.str k) ((["snap", "register"] : List Str).map V.str) = strIn k ["snap", "register"] := inV_str
      refine ⟨tt, _, rfl, .inr (SqT.of upd_same), rfl, rfl, _, rfl, ?_⟩
      have e' : inV (.str k) [.str "snap", .str "register"] = strIn k ["snap", "register"] := e
      rw [e']
      cases hin : strIn k ["snap", "register"] with
      | true =>
        refine iteT ⟨_, rfl, by show 2 ≤ sizeLine; decide, fun t ht => ?_⟩
        refine q (.ref t) _ (s1.trans (s2.trans (same_new ht))) ?_
        unfold answD
        rw [if_neg hk, if_pos hin]
        exact .tup (SqT.of upd_same) (.cons (.str _) (.cons (.int _) .nil))
      | false =>
        refine iteF ⟨by show 2 ≤ sizeLine; decide, fun t ht => ?_⟩
        refine q (.ref t) _ (s1.trans (s2.trans (same_new ht))) ?_
        unfold answD
        rw [if_neg hk, if_neg (by rw [hin]; exact Bool.false_ne_true)]
        exact .tup (SqT.of upd_same) (.cons (.str _) (.cons .non .nil))
theorem scAnswer : FnScope ["order", "kind"] ["order", "kind"] (defScope sAnswer) := ⟨rfl, rfl, rfl, by decide +kernel, rfl, by decide +kernel, by decide +kernel⟩
theorem ok_answer (F : Fun K "_law_answer" "_law_answer" sAnswer f fd) : FnOk P wrl K mg base CX0 1 f fd ["order", "kind"] (spAnswer K) := by
  refine F.ok scAnswer (fun vs H Q E h => ?_) (fun cdv A outer s H vs Q E hr h => ?_)
  · obtain ⟨o, k, rfl, _⟩ := h
    rfl
  · obtain ⟨o, k, rfl, q⟩ := h
    refine ⟨_, pss_cons (ps_if (pt_cmpR op_eq (pv 1) pe_str (nomark _)) (pss_one (ps_ret pe_non)) pss_nil)
      (pss_cons (ps_if (pt_cmpR op_in_seq (pv 1) (pe_tup (pa_cons pe_str (pa_cons pe_str pa_nil))) (by rfl)) (pss_one (ps_ret (pe_tup (pa_cons pe_str (pa_cons (pv 0) pa_nil))))) pss_nil)
      (pss_one (ps_ret (pe_tup (pa_cons pe_str (pa_cons pe_non pa_nil)))))), ?_⟩
    refine ⟨_, rfl, rfl, _, rfl, ?_⟩
    by_cases hk : k = "mark"
    · subst hk
      rw [str_eqT]
      refine iteT ?_
      exact q .non H (Same.refl H) .non
    · rw [str_eqF hk]
      refine iteF ⟨_, rfl, by show 2 ≤ sizeLine; decide, fun tt htt => ?_⟩
      have s2 := same_new (o := .tup [.str "snap", .str "register"]) htt
      have e' : inV (.str k) [.str "snap", .str "register"] = strIn k ["snap", "register"] := inV_str (ns := ["snap", "register"])
      refine ⟨tt, _, rfl, .inr (SqT.of upd_same), rfl, rfl, _, rfl, ?_⟩
      rw [e']
      cases hin : strIn k ["snap", "register"] with
      | true =>
        refine iteT ⟨_, rfl, by show 2 ≤ sizeLine; decide, fun t ht => ?_⟩
        refine q (.ref t) _ (s2.trans (same_new ht)) ?_
        unfold answD
        rw [if_neg hk, if_pos hin]
        exact .tup (SqT.of upd_same) (.cons (.str _) (.cons (.int _) .nil))
      | false =>
        refine iteF ⟨by show 2 ≤ sizeLine; decide, fun t ht => ?_⟩
        refine q (.ref t) _ (s2.trans (same_new ht)) ?_
        unfold answD
        rw [if_neg hk, if_neg (by rw [hin]; exact Bool.false_ne_true)]
        exact .tup (SqT.of upd_same) (.cons (.str _) (.cons .non .nil))
end
end Sg

set_option Elab.async false
set_option linter.all false
set_option maxRecDepth 100000
set_option maxHeartbeats 4000000
namespace Sg
open PySem PySem.Spec PyProof.Rows L2
def spWord (K : PySem.W.Frag) : Sp := fun vs H Q _ => ∃ x d a ns, vs = [x, .ref a] ∧ Dp K H x d ∧ SqT K H a (ns.map V.str) ∧ Q (.bl (strInD ns d)) H
def spFits (K : PySem.W.Frag) : Sp := fun vs H Q _ => ∃ x d, vs = [x] ∧ Dp K H x d ∧ Q (.bl (noneB d || toldD d)) H
section
variable {P : Program} {wrl : World} {K : PySem.W.Frag} {mg : Str → Option Value} {base : Heap} {f fW fI fR CN CS aK aF : Addr} {fd fdW fdI fdR : FuncData}
theorem scInteger : FnScope ["value"] ["value"] (defScope sInteger) := ⟨rfl, rfl, rfl, by decide +kernel, rfl, by decide +kernel, by decide +kernel⟩
theorem ok_integer (F : Fun K "_law_integer" "_law_integer" sInteger f fd) (B : Bds mg fW) : FnOk P wrl K mg base CX0 1 f fd ["value"] (spWhole K) := by
  refine F.ok scInteger (fun vs H Q E h => ?_) (fun cdv A outer s H vs Q E hr h => ?_)
  · obtain ⟨x, d, rfl, _⟩ := h
    rfl
  · obtain ⟨x, d, rfl, hd, q⟩ := h
    obtain ⟨t, ty, h1, h2, _⟩ := dp_ty hd
    refine ⟨_, pss_one (ps_ret (pe_and (pe_callB call_isi (by rfl) B.isi boot_isi (pa_cons (pv 0) (pa_cons (pe_bltn (v := .ty "int") (by rfl) B.int boot_int rfl) pa_nil)))
      (pe_one (pe_not (pe_callB call_isi (by rfl) B.isi boot_isi (pa_cons (pv 0) (pa_cons (pe_bltn (v := .ty "bool") (by rfl) B.bool boot_bool rfl) pa_nil))))))), ?_⟩
    rw [← whole_eq] at q
    refine ⟨_, rfl, x, _, t, _, _, rfl, .ty "int", ty, h1, _, rfl, ?_⟩
    cases hb : intB d with
    | true =>
      rw [hb] at q
      exact iteT ⟨_, rfl, x, _, t, _, _, rfl, .ty "bool", ty, h2, _, rfl, q⟩
    | false =>
      rw [hb] at q
      exact iteF q
theorem scWithin : FnScope ["value", "low", "high"] ["value", "low", "high"] (defScope sWithin) := ⟨rfl, rfl, rfl, by decide +kernel, rfl, by decide +kernel, by decide +kernel⟩
theorem ok_within (F : Fun K "_law_within" "_law_within" sWithin f fd) (GI : Def P wrl K mg base CX0 "_law_integer" 1 ["value"] (spWhole K) fI fdI) : FnOk P wrl K mg base CX0 2 f fd ["value", "low", "high"] (spBetween K) := by
  refine F.ok scWithin (fun vs H Q E h => ?_) (fun cdv A outer s H vs Q E hr h => ?_)
  · obtain ⟨x, d, lo, hi, rfl, _⟩ := h
    rfl
  · obtain ⟨x, d, lo, hi, rfl, hd, q⟩ := h
    refine ⟨_, pss_one (ps_ret (pe_and (pe_call GI.ok hr (by rfl) GI.mg GI.kp GI.bd .nil pass0 (pa_cons (pv 0) pa_nil)) (pe_one (pe_chain op_le op_le (pv 1) (pv 0) (pv 2))))), ?_⟩
    refine ⟨_, rfl, x, d, rfl, hd, _, rfl, ?_⟩
    cases hw : wholeD d with
    | false =>
      rw [not_whole_bt hw] at q
      exact iteF q
    | true =>
      obtain ⟨i, rfl, rfl⟩ := whole_int hd hw
      refine iteT ⟨_, rfl, _, rfl, _, _, rfl, rfl, _, rfl, ?_⟩
      by_cases c : lo ≤ i
      · rw [show betwD lo hi (.int i) = (decide (lo ≤ i) && decide (i ≤ hi)) from rfl, decide_eq_true c] at q
        rw [if_pos (decide_eq_true c)]
        exact ⟨_, rfl, _, _, rfl, rfl, q⟩
      · rw [show betwD lo hi (.int i) = (decide (lo ≤ i) && decide (i ≤ hi)) from rfl, decide_eq_false c] at q
        rw [if_neg (by rw [decide_eq_false c]; exact Bool.false_ne_true)]
        exact q
theorem scWord : FnScope ["value", "words"] ["value", "words"] (defScope sWord) := ⟨rfl, rfl, rfl, by decide +kernel, rfl, by decide +kernel, by decide +kernel⟩
theorem ok_word (F : Fun K "_law_word" "_law_word" sWord f fd) (B : Bds mg fW) : FnOk P wrl K mg base CX0 1 f fd ["value", "words"] (spWord K) := by
  refine F.ok scWord (fun vs H Q E h => ?_) (fun cdv A outer s H vs Q E hr h => ?_)
  · obtain ⟨x, d, a, ns, rfl, _⟩ := h
    rfl
  · obtain ⟨x, d, a, ns, rfl, hd, hs, q⟩ := h
    obtain ⟨t, ty, _, _, h3, _⟩ := dp_ty hd
    refine ⟨_, pss_one (ps_ret (pe_and (pe_callB call_isi (by rfl) B.isi boot_isi (pa_cons (pv 0) (pa_cons (pe_bltn (v := .ty "str") (by rfl) B.str boot_str rfl) pa_nil)))
      (pe_one (pe_cmpR op_in_seq (pv 0) (pv 1) (by rfl))))), ?_⟩
    refine ⟨_, rfl, x, _, t, _, _, rfl, .ty "str", ty, h3, _, rfl, ?_⟩
    cases hd with
    | str z =>
      refine iteT ⟨_, rfl, _, rfl, a, _, rfl, .inr hs, rfl, flat_strs, ?_⟩
      have e : inV (.str z) (ns.map V.str) = strInD ns (.str z) := inV_str
      rw [← e] at q
      exact q
    | non => exact iteF q
    | bl b => exact iteF q
    | int i => exact iteF q
    | lst h1 h2 => exact iteF q
    | tup h1 h2 => exact iteF q
theorem scFits : FnScope ["value"] ["value"] (defScope sToldFits) := ⟨rfl, rfl, rfl, by decide +kernel, rfl, by decide +kernel, by decide +kernel⟩
theorem at_least_lt {lo : Int} {i : Int} : atLeastD lo (.int i) = !decide (i < lo) := by
  show decide (lo ≤ i) = !decide (i < lo)
  by_cases h : lo ≤ i
  · rw [decide_eq_true h, decide_eq_false (by omega)]; rfl
  · rw [decide_eq_false h, decide_eq_true (by omega)]; rfl
theorem ok_fits (F : Fun K "_law_told_fits" "_law_told_fits" sToldFits f fd) (B : Bds mg fW) (hlen : mg "len" = none) (GI : Def P wrl K mg base CX0 "_law_integer" 1 ["value"] (spWhole K) fI fdI) : FnOk P wrl K mg base CX0 2 f fd ["value"] (spFits K) := by
  refine F.ok scFits (fun vs H Q E h => ?_) (fun cdv A outer s H vs Q E hr h => ?_)
  · obtain ⟨x, d, rfl, _⟩ := h
    rfl
  · obtain ⟨x, d, rfl, hd, q⟩ := h
    obtain ⟨t, ty, _, _, _, h4, _⟩ := dp_ty hd
    refine ⟨_, pss_cons (ps_if (pt_cmpR op_isN (pv 0) pe_non (nomark _)) (pss_one (ps_ret pe_bl)) pss_nil)
      (pss_cons (ps_if (PW.pt (pw_or (pt_not (pt_val (pe_callB call_isi (by rfl) B.isi boot_isi (pa_cons (pv 0) (pa_cons (pe_bltn (v := .ty "tuple") (by rfl) B.tup boot_tuple rfl) pa_nil))))) (pw_or (pt_cmpR op_ne (pe_callB call_len_seq (by rfl) hlen PySem.boot_len (pa_cons (pv 0) pa_nil)) pe_int (nomark _))
          (pw_or (pt_not (pt_val (pe_call GI.ok hr (by rfl) GI.mg GI.kp GI.bd .nil pass0 (pa_cons (pe_ix ix_tup (pv 0) pe_int (fun _ _ => rfl)) pa_nil)))) (pw_or1 (pt_not (pt_val (pe_call GI.ok hr (by rfl) GI.mg GI.kp GI.bd .nil pass0 (pa_cons (pe_ix ix_tup (pv 0) pe_int (fun _ _ => rfl)) pa_nil)))))))))
          (pss_one (ps_ret pe_bl)) pss_nil)
      (pss_cons (ps_if (PW.pt (pw_or (pt_cmpR op_lt (pe_ix ix_tup (pv 0) pe_int (fun _ _ => rfl)) pe_int (nomark _)) (pw_or1 (pt_cmpR op_lt (pe_ix ix_tup (pv 0) pe_int (fun _ _ => rfl)) pe_int (nomark _))))) (pss_one (ps_ret pe_bl)) pss_nil)
      (pss_one (ps_ret (pe_or (pe_cmpR op_isN (pe_ix ix_tup (pv 0) pe_int (fun _ _ => rfl)) pe_non (nomark _)) (pe_one (pe_and (pe_callB call_isi (by rfl) B.isi boot_isi (pa_cons (pe_ix ix_tup (pv 0) pe_int (fun _ _ => rfl)) (pa_cons (pe_bltn (v := .ty "tuple") (by rfl) B.tup boot_tuple rfl) pa_nil)))
          (pe_one (pe_cmpR op_eq (pe_callB call_len_seq (by rfl) hlen PySem.boot_len (pa_cons (pe_ix ix_tup (pv 0) pe_int (fun _ _ => rfl)) pa_nil)) pe_int (nomark _)))))))))), ?_⟩
    refine ⟨_, rfl, rfl, _, rfl, ?_⟩
    rw [dp_non hd]
    cases n0 : noneB d with
    | true => rw [n0] at q; exact iteT q
    | false =>
      rw [n0] at q
      have q' : Q (.bl (toldD d)) H := q
      refine iteF ⟨_, rfl, x, _, t, _, _, rfl, .ty "tuple", ty, h4, _, rfl, ?_⟩
      cases ht : tupB d with
      | false =>
        have e : toldD d = false := by cases d <;> first | rfl | cases ht
        rw [e] at q'
        exact iteT (iteT q')
      | true =>
        refine iteF ?_
        obtain ⟨a, xs, ds, rfl, rfl, hs, ha⟩ := dp_tup hd ht
        refine ⟨_, rfl, a, xs, rfl, .inr hs, rfl, _, rfl, ?_⟩
        have hl := dpAll_len ha
        by_cases h3 : ds.length = 3
        · rw [decide_eq_true (show V.int (xs.length : Int) = V.int 3 by rw [hl, h3]; rfl)]
          refine iteF ?_
          obtain ⟨x1, x2, x3, d1, d2, d3, rfl, rfl, e1, e2, e3⟩ := dpAll_3 ha h3
          have q2 : Q (.bl (atLeastD 1 d1 && (atLeastD 0 d2 && (noneB d3 || pairB d3)))) H := q'
          refine ⟨_, rfl, a, _, _, _, rfl, rfl, hs, atI_nat (j := 0) rfl, x1, d1, rfl, e1, _, rfl, ?_⟩
          cases w1 : wholeD d1 with
          | false =>
            rw [not_whole_at w1] at q2
            exact iteT (iteT q2)
          | true =>
            obtain ⟨i1, rfl, rfl⟩ := whole_int e1 w1
            refine iteF ⟨_, rfl, a, _, _, _, rfl, rfl, hs, atI_nat (j := 1) rfl, x2, d2, rfl, e2, _, rfl, ?_⟩
            cases w2 : wholeD d2 with
            | false =>
              rw [not_whole_at w2, Bool.false_and, Bool.and_false] at q2
              exact iteT q2
            | true =>
              obtain ⟨i2, rfl, rfl⟩ := whole_int e2 w2
              rw [at_least_lt, at_least_lt] at q2
              refine iteF ⟨_, rfl, a, _, _, _, rfl, rfl, hs, atI_nat (j := 0) rfl, _, _, rfl, rfl, _, rfl, ?_⟩
              by_cases c1 : i1 < 1
              · rw [decide_eq_true c1]
                rw [decide_eq_true c1] at q2
                exact iteT (iteT q2)
              · rw [decide_eq_false c1]
                rw [decide_eq_false c1] at q2
                refine iteF ⟨_, rfl, a, _, _, _, rfl, rfl, hs, atI_nat (j := 1) rfl, _, _, rfl, rfl, _, rfl, ?_⟩
                by_cases c2 : i2 < 0
                · rw [decide_eq_true c2]
                  rw [decide_eq_true c2] at q2
                  exact iteT q2
                · rw [decide_eq_false c2]
                  rw [decide_eq_false c2] at q2
                  refine iteF ?_
                  have q3 : Q (.bl (noneB d3 || pairB d3)) H := q2
                  refine ⟨_, rfl, a, _, _, _, rfl, rfl, hs, atI_nat (j := 2) rfl, rfl, _, rfl, ?_⟩
                  rw [dp_non e3]
                  cases n3 : noneB d3 with
                  | true => rw [n3] at q3; exact iteT q3
                  | false =>
                    rw [n3] at q3
                    obtain ⟨t3, ty3, _, _, _, k4, _⟩ := dp_ty e3
                    refine iteF ⟨_, rfl, a, _, _, _, rfl, rfl, hs, atI_nat (j := 2) rfl, x3, _, t3, _, _, rfl, .ty "tuple", ty3, k4, _, rfl, ?_⟩
                    cases ht3 : tupB d3 with
                    | false =>
                      have e : pairB d3 = false := by cases d3 <;> first | rfl | cases ht3
                      rw [e] at q3
                      exact iteF q3
                    | true =>
                      obtain ⟨a3, ys, es, rfl, rfl, hs3, ha3⟩ := dp_tup e3 ht3
                      refine iteT ⟨_, rfl, a, _, _, _, rfl, rfl, hs, atI_nat (j := 2) rfl, a3, ys, rfl, .inr hs3, rfl, ?_⟩
                      have hl3 := dpAll_len ha3
                      have e : decide (V.int (ys.length : Int) = V.int 2) = pairB (.tuple es) := by
                        rw [hl3]
                        match es with
                        | [] => exact decide_eq_false (by intro z; injection z with z; cases z)
                        | [_] => exact decide_eq_false (by intro z; injection z with z; cases z)
                        | [_, _] => exact decide_eq_true rfl
                        | _ :: _ :: _ :: r => exact decide_eq_false (by intro z; injection z with z; simp only [List.length_cons] at z; omega)
                      rw [e]
                      exact q3
        · have e : toldD (.tuple ds) = false := by
            match ds, h3 with
            | [], _ => rfl
            | [_], _ => rfl
            | [_, _], _ => rfl
            | [_, _, _], h => exact absurd rfl h
            | _ :: _ :: _ :: _ :: _, _ => rfl
          rw [e] at q'
          rw [decide_eq_false (show ¬ V.int (xs.length : Int) = V.int 3 by rw [hl]; intro z; injection z with z; omega)]
          exact iteT (iteT q')
end
end Sg

set_option Elab.async false
set_option linter.all false
set_option maxRecDepth 100000
set_option maxHeartbeats 8000000
namespace Sg
open PySem PySem.Spec PyProof.Rows L2
def spFit (K : PySem.W.Frag) : Sp := fun vs H Q _ => ∃ (k : Str) (ns : List Str) (o : Int) (a : Addr) (ys : List V) (fs : List PyData), vs = [.str k, .int o, .ref a] ∧ (k, ns) ∈ fieldT ∧ H a = some (.lst ys) ∧ DpAll K H ys fs ∧ ∀ H', Same H H' → Q (.bl (decide (fs.length = ns.length) && fieldsD ns fs o)) H'
theorem cnt_at : ∀ p ∈ fieldT, p.1 ∈ kindsL ∧ ([1, 2, 1, 3, 2, 1, 2, 1, 2, 2, 1, 3] : List Int)[kindsL.idxOf p.1]? = some (p.2.length : Int) := by decide +kernel
theorem fx_ns {d : PyData} {o : Int} : fieldD "namespace" d o = betwD 1 8 d := if_pos rfl
theorem fx_pl {d : PyData} {o : Int} : fieldD "place" d o = betwD 0 63 d := (if_neg (by decide +kernel)).trans (if_pos rfl)
theorem fx_va {d : PyData} {o : Int} : fieldD "value" d o = wholeD d := (if_neg (by decide +kernel)).trans ((if_neg (by decide +kernel)).trans (if_pos rfl))
theorem fx_si {d : PyData} {o : Int} : fieldD "size" d o = betwD 1 64 d := (if_neg (by decide +kernel)).trans ((if_neg (by decide +kernel)).trans ((if_neg (by decide +kernel)).trans (if_pos rfl)))
theorem fx_sn {d : PyData} {o : Int} : fieldD "snapshot" d o = betwD 1 (o - 1) d := (if_neg (by decide +kernel)).trans ((if_neg (by decide +kernel)).trans ((if_neg (by decide +kernel)).trans ((if_neg (by decide +kernel)).trans (if_pos rfl))))
theorem fx_vi {d : PyData} {o : Int} : fieldD "victim" d o = betwD 0 3 d := (if_neg (by decide +kernel)).trans ((if_neg (by decide +kernel)).trans ((if_neg (by decide +kernel)).trans ((if_neg (by decide +kernel)).trans ((if_neg (by decide +kernel)).trans (if_pos rfl)))))
theorem fx_he {d : PyData} {o : Int} : fieldD "held" d o = boolB d := (if_neg (by decide +kernel)).trans ((if_neg (by decide +kernel)).trans ((if_neg (by decide +kernel)).trans ((if_neg (by decide +kernel)).trans ((if_neg (by decide +kernel)).trans ((if_neg (by decide +kernel)).trans (if_pos rfl))))))
theorem fx_to {d : PyData} {o : Int} : fieldD "told" d o = (noneB d || toldD d) := (if_neg (by decide +kernel)).trans ((if_neg (by decide +kernel)).trans ((if_neg (by decide +kernel)).trans ((if_neg (by decide +kernel)).trans ((if_neg (by decide +kernel)).trans ((if_neg (by decide +kernel)).trans ((if_neg (by decide +kernel)).trans (if_pos rfl)))))))
theorem fx_wn {d : PyData} {o : Int} : fieldD "way or none" d o = (noneB d || strInD ["write", "alone"] d) := by
  have e : fieldD "way or none" d o = (if ("way or none" : Str) = "way or none" ∧ noneB d = true then true else strInD ["write", "alone"] d) :=
    (if_neg (by decide +kernel)).trans ((if_neg (by decide +kernel)).trans ((if_neg (by decide +kernel)).trans ((if_neg (by decide +kernel)).trans ((if_neg (by decide +kernel)).trans ((if_neg (by decide +kernel)).trans ((if_neg (by decide +kernel)).trans (if_neg (by decide +kernel))))))))
  rw [e]
  cases h : noneB d with
  | true => rw [if_pos ⟨rfl, rfl⟩]; rfl
  | false => rw [if_neg (by rintro ⟨_, z⟩; cases z)]; rfl
theorem fx_wa {d : PyData} {o : Int} : fieldD "way" d o = strInD ["write", "alone"] d :=
  (if_neg (by decide +kernel)).trans ((if_neg (by decide +kernel)).trans ((if_neg (by decide +kernel)).trans ((if_neg (by decide +kernel)).trans ((if_neg (by decide +kernel)).trans ((if_neg (by decide +kernel)).trans ((if_neg (by decide +kernel)).trans ((if_neg (by decide +kernel)).trans (if_neg (by rintro ⟨z, _⟩; exact absurd z (by decide +kernel))))))))))
theorem fs1 {n : Str} {d : PyData} {o : Int} : fieldsD [n] [d] o = fieldD n d o := Bool.and_true _
theorem fs2 {n m : Str} {d e : PyData} {o : Int} : fieldsD [n, m] [d, e] o = (fieldD n d o && fieldD m e o) := by
  show (fieldD n d o && (fieldD m e o && true)) = _
  rw [Bool.and_true]
theorem fs3 {n m l : Str} {d e g : PyData} {o : Int} : fieldsD [n, m, l] [d, e, g] o = (fieldD n d o && (fieldD m e o && fieldD l g o)) := by
  show (fieldD n d o && (fieldD m e o && (fieldD l g o && true))) = _
  rw [Bool.and_true]
theorem dpAll_1 {K : PySem.W.Frag} {H : Hp} {xs : List V} {ds : List PyData} (h : DpAll K H xs ds) (h3 : ds.length = 1) : ∃ x1 d1, xs = [x1] ∧ ds = [d1] ∧ Dp K H x1 d1 := by
  match ds, h3 with
  | [d1], _ =>
    obtain ⟨x1, r1, rfl, a1, b1⟩ := dpAll_cons h
    obtain rfl := dpAll_nil b1
    exact ⟨_, _, rfl, rfl, a1⟩
theorem dpAll_2 {K : PySem.W.Frag} {H : Hp} {xs : List V} {ds : List PyData} (h : DpAll K H xs ds) (h3 : ds.length = 2) : ∃ x1 x2 d1 d2, xs = [x1, x2] ∧ ds = [d1, d2] ∧ Dp K H x1 d1 ∧ Dp K H x2 d2 := by
  match ds, h3 with
  | [d1, d2], _ =>
    obtain ⟨x1, r1, rfl, a1, b1⟩ := dpAll_cons h
    obtain ⟨x2, r2, rfl, a2, b2⟩ := dpAll_cons b1
    obtain rfl := dpAll_nil b2
    exact ⟨_, _, _, _, rfl, rfl, a1, a2⟩
section
variable {P : Program} {wrl : World} {K : PySem.W.Frag} {mg : Str → Option Value} {base : Heap} {f fW fI fB fO fT aK aF : Addr} {fd fdW fdI fdB fdO fdT : FuncData}
theorem scFit : FnScope ["kind", "order", "fields"] ["kind", "order", "fields"] (defScope sFit) := ⟨rfl, rfl, rfl, by decide +kernel, rfl, by decide +kernel, by decide +kernel⟩
theorem ok_fit (F : Fun K "_law_fit" "_law_fit" sFit f fd) (B : Bds mg fW) (R : RX K wrl mg aK aF) (hlen : mg "len" = none) (GI : Def P wrl K mg base CX0 "_law_integer" 1 ["value"] (spWhole K) fI fdI)
    (GB : Def P wrl K mg base CX0 "_law_within" 2 ["value", "low", "high"] (spBetween K) fB fdB) (GO : Def P wrl K mg base CX0 "_law_word" 1 ["value", "words"] (spWord K) fO fdO) (GT : Def P wrl K mg base CX0 "_law_told_fits" 2 ["value"] (spFits K) fT fdT) :
    FnOk P wrl K mg base CX0 3 f fd ["kind", "order", "fields"] (spFit K) := by
  refine F.ok scFit (fun vs H Q E h => ?_) (fun cdv A outer s H vs Q E hr h => ?_)
  · obtain ⟨k, ns, o, a, ys, fs, rfl, _⟩ := h
    rfl
  · obtain ⟨k, ns, o, a, ys, fs, rfl, hmem, ha, e6, q⟩ := h
    have hr1 : Room 1 _ := hr.mono (by decide)
    refine ⟨_, pss_cons (ps_if (pt_cmpR op_ne (pe_callB call_len_seq (by rfl) hlen PySem.boot_len (pa_cons (pv 2) pa_nil)) (pe_ix ix_list (pe_lst (pa_cons pe_int (pa_cons pe_int (pa_cons pe_int (pa_cons pe_int (pa_cons pe_int (pa_cons pe_int (pa_cons pe_int (pa_cons pe_int (pa_cons pe_int (pa_cons pe_int (pa_cons pe_int (pa_cons pe_int pa_nil)))))))))))))
          (pe_bm PySem.F.plainAttrs_tuple PySem.F.slot_tuple_index PySem.F.type_tuple_index mt_tindex (pe_glob (v := .ref aK) (by rfl) R.gK rfl) (pa_cons (pv 0) pa_nil)) (fun _ _ => rfl)) (nomark _)) (pss_one (ps_ret pe_bl)) pss_nil)
      (pss_cons (ps_if (pt_cmpR op_eq (pv 0) pe_str (nomark _)) (pss_one (ps_ret (pe_call GT.ok hr (by rfl) GT.mg GT.kp GT.bd .nil pass0 (pa_cons (pe_ix ix_list (pv 2) pe_int (fun _ _ => rfl)) pa_nil)))) pss_nil)
      (pss_cons (ps_if (pt_not (pt_val (pe_call GB.ok hr (by rfl) GB.mg GB.kp GB.bd .nil pass0 (pa_cons (pe_ix ix_list (pv 2) pe_int (fun _ _ => rfl)) (pa_cons pe_int (pa_cons pe_int pa_nil)))))) (pss_one (ps_ret pe_bl)) pss_nil)
      (pss_cons (ps_if (pt_cmpR op_eq (pv 0) pe_str (nomark _)) (pss_one (ps_ret (pe_call GB.ok hr (by rfl) GB.mg GB.kp GB.bd .nil pass0 (pa_cons (pe_ix ix_list (pv 2) pe_int (fun _ _ => rfl)) (pa_cons pe_int (pa_cons pe_int pa_nil)))))) pss_nil)
      (pss_cons (ps_if (pt_cmpR op_eq (pv 0) pe_str (nomark _)) (pss_one (ps_ret (pe_callB call_isi (by rfl) B.isi boot_isi (pa_cons (pe_ix ix_list (pv 2) pe_int (fun _ _ => rfl)) (pa_cons (pe_bltn (v := .ty "bool") (by rfl) B.bool boot_bool rfl) pa_nil))))) pss_nil)
      (pss_cons (ps_if (pt_cmpR op_eq (pv 0) pe_str (nomark _)) (pss_one (ps_ret (pe_and (pe_call GB.ok hr (by rfl) GB.mg GB.kp GB.bd .nil pass0 (pa_cons (pe_ix ix_list (pv 2) pe_int (fun _ _ => rfl)) (pa_cons pe_int (pa_cons pe_int pa_nil)))) (pe_one (pe_call GI.ok hr1 (by rfl) GI.mg GI.kp GI.bd .nil pass0 (pa_cons (pe_ix ix_list (pv 2) pe_int (fun _ _ => rfl)) pa_nil)))))) pss_nil)
      (pss_cons (ps_if (pt_cmpR op_eq (pv 0) pe_str (nomark _)) (pss_one (ps_ret (pe_call GB.ok hr (by rfl) GB.mg GB.kp GB.bd .nil pass0 (pa_cons (pe_ix ix_list (pv 2) pe_int (fun _ _ => rfl)) (pa_cons pe_int (pa_cons pe_int pa_nil)))))) pss_nil)
      (pss_cons (ps_if (pt_cmpR op_eq (pv 0) pe_str (nomark _)) (pss_one (ps_ret (pe_call GB.ok hr (by rfl) GB.mg GB.kp GB.bd .nil pass0 (pa_cons (pe_ix ix_list (pv 2) pe_int (fun _ _ => rfl)) (pa_cons pe_int (pa_cons (pe_op op_sub (pv 1) pe_int) pa_nil)))))) pss_nil)
      (pss_cons (ps_if (pt_cmpR op_eq (pv 0) pe_str (nomark _)) (pss_one (ps_ret (pe_call GO.ok hr1 (by rfl) GO.mg GO.kp GO.bd .nil pass0 (pa_cons (pe_ix ix_list (pv 2) pe_int (fun _ _ => rfl)) (pa_cons (pe_tup (pa_cons pe_str (pa_cons pe_str pa_nil))) pa_nil))))) pss_nil)
      (pss_cons (ps_if (pt_cmpR op_eq (pv 0) pe_str (nomark _)) (pss_one (ps_ret (pe_and (pe_call GB.ok hr (by rfl) GB.mg GB.kp GB.bd .nil pass0 (pa_cons (pe_ix ix_list (pv 2) pe_int (fun _ _ => rfl)) (pa_cons pe_int (pa_cons pe_int pa_nil))))
          (pe_one (pe_or (pe_cmpR op_isN (pe_ix ix_list (pv 2) pe_int (fun _ _ => rfl)) pe_non (nomark _)) (pe_one (pe_call GO.ok hr1 (by rfl) GO.mg GO.kp GO.bd .nil pass0 (pa_cons (pe_ix ix_list (pv 2) pe_int (fun _ _ => rfl)) (pa_cons (pe_tup (pa_cons pe_str (pa_cons pe_str pa_nil))) pa_nil))))))))) pss_nil)
      (pss_one (ps_ret pe_bl))))))))))), ?_⟩
    obtain ⟨hk, hcnt⟩ := cnt_at _ hmem
    have hl6 := dpAll_len e6
    refine ⟨_, rfl, a, ys, rfl, .inl (SqL.of ha), by show 12 ≤ sizeLine; decide, fun l hl => ?_⟩
    have s1 := same_new (o := .lst [.int 1, .int 2, .int 1, .int 3, .int 2, .int 1, .int 2, .int 1, .int 2, .int 2, .int 1, .int 3]) hl
    refine ⟨.inr (.inl ⟨rfl, R.oK⟩), _, rfl, aK, kindsL, k, rfl, rfl, R.sK _, hk, ?_⟩
    refine ⟨l, _, _, _, rfl, rfl, SqL.of upd_same, atI_nat (j := kindsL.idxOf k) (get_map (f := V.int) hcnt), rfl, _, rfl, ?_⟩
    have ha1 := s1 _ _ ha
    have e6' := dpAll_same s1 _ _ e6
    have q1 := q _ s1
    generalize upd H l (.lst [.int 1, .int 2, .int 1, .int 3, .int 2, .int 1, .int 2, .int 1, .int 2, .int 2, .int 1, .int 3]) = H1 at s1 ha1 e6' q1
    by_cases hfl : fs.length = ns.length
    · rw [decide_eq_true (show V.int (ys.length : Int) = V.int (((k, ns).2.length : Nat) : Int) by rw [hl6, hfl])]
      refine iteF ⟨_, rfl, rfl, _, rfl, ?_⟩
      rw [decide_eq_true hfl] at q q1
      simp only [fieldT, List.mem_cons, List.not_mem_nil, or_false, Prod.mk.injEq] at hmem
      rcases hmem with ⟨rfl, rfl⟩ | ⟨rfl, rfl⟩ | ⟨rfl, rfl⟩ | ⟨rfl, rfl⟩ | ⟨rfl, rfl⟩ | ⟨rfl, rfl⟩ | ⟨rfl, rfl⟩ | ⟨rfl, rfl⟩ | ⟨rfl, rfl⟩ | ⟨rfl, rfl⟩ | ⟨rfl, rfl⟩ | ⟨rfl, rfl⟩
      · obtain ⟨x1, d1, rfl, rfl, e1⟩ := dpAll_1 e6' hfl
        have q2 : Q (.bl (fieldsD ["told"] [d1] o)) H1 := q1
        rw [fs1, fx_to] at q2
        rw [str_eqT]
        exact iteT ⟨_, rfl, a, _, _, _, rfl, rfl, SqL.of ha1, atI_nat (j := 0) rfl, x1, d1, rfl, e1, q2⟩
      · obtain ⟨x1, x2, d1, d2, rfl, rfl, e1, e2⟩ := dpAll_2 e6' hfl
        have q2 : Q (.bl (fieldsD ["namespace", "size"] [d1, d2] o)) H1 := q1
        rw [fs2, fx_ns, fx_si] at q2
        rw [str_eqF (by decide +kernel)]
        refine iteF ⟨_, rfl, a, _, _, _, rfl, rfl, SqL.of ha1, atI_nat (j := 0) rfl, x1, d1, 1, 8, rfl, e1, _, rfl, ?_⟩
        cases b1 : betwD 1 8 d1 with
        | false => rw [b1] at q2; exact iteT q2
        | true =>
          rw [b1] at q2
          refine iteF ⟨_, rfl, rfl, _, rfl, ?_⟩
          rw [str_eqT]
          refine iteT ?_
          exact ⟨_, rfl, a, _, _, _, rfl, rfl, SqL.of ha1, atI_nat (j := 1) rfl, x2, d2, 1, 64, rfl, e2, q2⟩
      · obtain ⟨x1, d1, rfl, rfl, e1⟩ := dpAll_1 e6' hfl
        have q2 : Q (.bl (fieldsD ["namespace"] [d1] o)) H1 := q1
        rw [fs1, fx_ns] at q2
        rw [str_eqF (by decide +kernel)]
        refine iteF ⟨_, rfl, a, _, _, _, rfl, rfl, SqL.of ha1, atI_nat (j := 0) rfl, x1, d1, 1, 8, rfl, e1, _, rfl, ?_⟩
        cases b1 : betwD 1 8 d1 with
        | false => rw [b1] at q2; exact iteT q2
        | true =>
          rw [b1] at q2
          refine iteF ⟨_, rfl, rfl, _, rfl, ?_⟩
          rw [str_eqF (by decide +kernel)]
          refine iteF ⟨_, rfl, rfl, _, rfl, ?_⟩
          rw [str_eqF (by decide +kernel)]
          refine iteF ⟨_, rfl, rfl, _, rfl, ?_⟩
          rw [str_eqF (by decide +kernel)]
          refine iteF ⟨_, rfl, rfl, _, rfl, ?_⟩
          rw [str_eqF (by decide +kernel)]
          refine iteF ⟨_, rfl, rfl, _, rfl, ?_⟩
          rw [str_eqF (by decide +kernel)]
          refine iteF ⟨_, rfl, rfl, _, rfl, ?_⟩
          rw [str_eqF (by decide +kernel)]
          refine iteF ⟨_, rfl, rfl, _, rfl, ?_⟩
          rw [str_eqF (by decide +kernel)]
          refine iteF ?_
          exact q2
      · obtain ⟨x1, x2, x3, d1, d2, d3, rfl, rfl, e1, e2, e3⟩ := dpAll_3 e6' hfl
        have q2 : Q (.bl (fieldsD ["namespace", "place", "value"] [d1, d2, d3] o)) H1 := q1
        rw [fs3, fx_ns, fx_pl, fx_va] at q2
        rw [str_eqF (by decide +kernel)]
        refine iteF ⟨_, rfl, a, _, _, _, rfl, rfl, SqL.of ha1, atI_nat (j := 0) rfl, x1, d1, 1, 8, rfl, e1, _, rfl, ?_⟩
        cases b1 : betwD 1 8 d1 with
        | false => rw [b1] at q2; exact iteT q2
        | true =>
          rw [b1] at q2
          refine iteF ⟨_, rfl, rfl, _, rfl, ?_⟩
          rw [str_eqF (by decide +kernel)]
          refine iteF ⟨_, rfl, rfl, _, rfl, ?_⟩
          rw [str_eqF (by decide +kernel)]
          refine iteF ⟨_, rfl, rfl, _, rfl, ?_⟩
          rw [str_eqT]
          refine iteT ?_
          have q3 : Q (.bl (betwD 0 63 d2 && wholeD d3)) H1 := q2
          refine ⟨_, rfl, a, _, _, _, rfl, rfl, SqL.of ha1, atI_nat (j := 1) rfl, x2, d2, 0, 63, rfl, e2, _, rfl, ?_⟩
          cases b2 : betwD 0 63 d2 with
          | false => rw [b2] at q3; exact iteF q3
          | true => rw [b2] at q3; exact iteT ⟨_, rfl, a, _, _, _, rfl, rfl, SqL.of ha1, atI_nat (j := 2) rfl, x3, d3, rfl, e3, q3⟩
      · obtain ⟨x1, x2, d1, d2, rfl, rfl, e1, e2⟩ := dpAll_2 e6' hfl
        have q2 : Q (.bl (fieldsD ["namespace", "place"] [d1, d2] o)) H1 := q1
        rw [fs2, fx_ns, fx_pl] at q2
        rw [str_eqF (by decide +kernel)]
        refine iteF ⟨_, rfl, a, _, _, _, rfl, rfl, SqL.of ha1, atI_nat (j := 0) rfl, x1, d1, 1, 8, rfl, e1, _, rfl, ?_⟩
        cases b1 : betwD 1 8 d1 with
        | false => rw [b1] at q2; exact iteT q2
        | true =>
          rw [b1] at q2
          refine iteF ⟨_, rfl, rfl, _, rfl, ?_⟩
          rw [str_eqF (by decide +kernel)]
          refine iteF ⟨_, rfl, rfl, _, rfl, ?_⟩
          rw [str_eqF (by decide +kernel)]
          refine iteF ⟨_, rfl, rfl, _, rfl, ?_⟩
          rw [str_eqF (by decide +kernel)]
          refine iteF ⟨_, rfl, rfl, _, rfl, ?_⟩
          rw [str_eqT]
          refine iteT ?_
          exact ⟨_, rfl, a, _, _, _, rfl, rfl, SqL.of ha1, atI_nat (j := 1) rfl, x2, d2, 0, 63, rfl, e2, q2⟩
      · obtain ⟨x1, d1, rfl, rfl, e1⟩ := dpAll_1 e6' hfl
        have q2 : Q (.bl (fieldsD ["namespace"] [d1] o)) H1 := q1
        rw [fs1, fx_ns] at q2
        rw [str_eqF (by decide +kernel)]
        refine iteF ⟨_, rfl, a, _, _, _, rfl, rfl, SqL.of ha1, atI_nat (j := 0) rfl, x1, d1, 1, 8, rfl, e1, _, rfl, ?_⟩
        cases b1 : betwD 1 8 d1 with
        | false => rw [b1] at q2; exact iteT q2
        | true =>
          rw [b1] at q2
          refine iteF ⟨_, rfl, rfl, _, rfl, ?_⟩
          rw [str_eqF (by decide +kernel)]
          refine iteF ⟨_, rfl, rfl, _, rfl, ?_⟩
          rw [str_eqF (by decide +kernel)]
          refine iteF ⟨_, rfl, rfl, _, rfl, ?_⟩
          rw [str_eqF (by decide +kernel)]
          refine iteF ⟨_, rfl, rfl, _, rfl, ?_⟩
          rw [str_eqF (by decide +kernel)]
          refine iteF ⟨_, rfl, rfl, _, rfl, ?_⟩
          rw [str_eqF (by decide +kernel)]
          refine iteF ⟨_, rfl, rfl, _, rfl, ?_⟩
          rw [str_eqF (by decide +kernel)]
          refine iteF ⟨_, rfl, rfl, _, rfl, ?_⟩
          rw [str_eqF (by decide +kernel)]
          refine iteF ?_
          exact q2
      · obtain ⟨x1, x2, d1, d2, rfl, rfl, e1, e2⟩ := dpAll_2 e6' hfl
        have q2 : Q (.bl (fieldsD ["namespace", "snapshot"] [d1, d2] o)) H1 := q1
        rw [fs2, fx_ns, fx_sn] at q2
        rw [str_eqF (by decide +kernel)]
        refine iteF ⟨_, rfl, a, _, _, _, rfl, rfl, SqL.of ha1, atI_nat (j := 0) rfl, x1, d1, 1, 8, rfl, e1, _, rfl, ?_⟩
        cases b1 : betwD 1 8 d1 with
        | false => rw [b1] at q2; exact iteT q2
        | true =>
          rw [b1] at q2
          refine iteF ⟨_, rfl, rfl, _, rfl, ?_⟩
          rw [str_eqF (by decide +kernel)]
          refine iteF ⟨_, rfl, rfl, _, rfl, ?_⟩
          rw [str_eqF (by decide +kernel)]
          refine iteF ⟨_, rfl, rfl, _, rfl, ?_⟩
          rw [str_eqF (by decide +kernel)]
          refine iteF ⟨_, rfl, rfl, _, rfl, ?_⟩
          rw [str_eqF (by decide +kernel)]
          refine iteF ⟨_, rfl, rfl, _, rfl, ?_⟩
          rw [str_eqT]
          refine iteT ?_
          exact ⟨_, rfl, a, _, _, _, rfl, rfl, SqL.of ha1, atI_nat (j := 1) rfl, _, rfl, _, _, rfl, rfl, x2, d2, 1, o - 1, rfl, e2, q2⟩
      · obtain ⟨x1, d1, rfl, rfl, e1⟩ := dpAll_1 e6' hfl
        have q2 : Q (.bl (fieldsD ["namespace"] [d1] o)) H1 := q1
        rw [fs1, fx_ns] at q2
        rw [str_eqF (by decide +kernel)]
        refine iteF ⟨_, rfl, a, _, _, _, rfl, rfl, SqL.of ha1, atI_nat (j := 0) rfl, x1, d1, 1, 8, rfl, e1, _, rfl, ?_⟩
        cases b1 : betwD 1 8 d1 with
        | false => rw [b1] at q2; exact iteT q2
        | true =>
          rw [b1] at q2
          refine iteF ⟨_, rfl, rfl, _, rfl, ?_⟩
          rw [str_eqF (by decide +kernel)]
          refine iteF ⟨_, rfl, rfl, _, rfl, ?_⟩
          rw [str_eqF (by decide +kernel)]
          refine iteF ⟨_, rfl, rfl, _, rfl, ?_⟩
          rw [str_eqF (by decide +kernel)]
          refine iteF ⟨_, rfl, rfl, _, rfl, ?_⟩
          rw [str_eqF (by decide +kernel)]
          refine iteF ⟨_, rfl, rfl, _, rfl, ?_⟩
          rw [str_eqF (by decide +kernel)]
          refine iteF ⟨_, rfl, rfl, _, rfl, ?_⟩
          rw [str_eqF (by decide +kernel)]
          refine iteF ⟨_, rfl, rfl, _, rfl, ?_⟩
          rw [str_eqF (by decide +kernel)]
          refine iteF ?_
          exact q2
      · obtain ⟨x1, x2, d1, d2, rfl, rfl, e1, e2⟩ := dpAll_2 e6' hfl
        have q2 : Q (.bl (fieldsD ["namespace", "held"] [d1, d2] o)) H1 := q1
        rw [fs2, fx_ns, fx_he] at q2
        rw [str_eqF (by decide +kernel)]
        refine iteF ⟨_, rfl, a, _, _, _, rfl, rfl, SqL.of ha1, atI_nat (j := 0) rfl, x1, d1, 1, 8, rfl, e1, _, rfl, ?_⟩
        cases b1 : betwD 1 8 d1 with
        | false => rw [b1] at q2; exact iteT q2
        | true =>
          rw [b1] at q2
          refine iteF ⟨_, rfl, rfl, _, rfl, ?_⟩
          rw [str_eqF (by decide +kernel)]
          refine iteF ⟨_, rfl, rfl, _, rfl, ?_⟩
          rw [str_eqT]
          refine iteT ?_
          obtain ⟨t2, ty2, _, k2, _⟩ := dp_ty e2
          exact ⟨_, rfl, a, _, _, _, rfl, rfl, SqL.of ha1, atI_nat (j := 1) rfl, x2, _, t2, _, _, rfl, .ty "bool", ty2, k2, q2⟩
      · obtain ⟨x1, x2, d1, d2, rfl, rfl, e1, e2⟩ := dpAll_2 e6' hfl
        have q2 : Q (.bl (fieldsD ["namespace", "way"] [d1, d2] o)) H1 := q1
        rw [fs2, fx_ns, fx_wa] at q2
        rw [str_eqF (by decide +kernel)]
        refine iteF ⟨_, rfl, a, _, _, _, rfl, rfl, SqL.of ha1, atI_nat (j := 0) rfl, x1, d1, 1, 8, rfl, e1, _, rfl, ?_⟩
        cases b1 : betwD 1 8 d1 with
        | false => rw [b1] at q2; exact iteT q2
        | true =>
          rw [b1] at q2
          refine iteF ⟨_, rfl, rfl, _, rfl, ?_⟩
          rw [str_eqF (by decide +kernel)]
          refine iteF ⟨_, rfl, rfl, _, rfl, ?_⟩
          rw [str_eqF (by decide +kernel)]
          refine iteF ⟨_, rfl, rfl, _, rfl, ?_⟩
          rw [str_eqF (by decide +kernel)]
          refine iteF ⟨_, rfl, rfl, _, rfl, ?_⟩
          rw [str_eqF (by decide +kernel)]
          refine iteF ⟨_, rfl, rfl, _, rfl, ?_⟩
          rw [str_eqF (by decide +kernel)]
          refine iteF ⟨_, rfl, rfl, _, rfl, ?_⟩
          rw [str_eqT]
          refine iteT ?_
          refine ⟨_, rfl, a, _, _, _, rfl, rfl, SqL.of ha1, atI_nat (j := 1) rfl, by show 2 ≤ sizeLine; decide, fun t ht => ?_⟩
          have s2 := same_new (o := .tup [.str "write", .str "alone"]) ht
          have q4 : Q (.bl (fieldsD ["namespace", "way"] [d1, d2] o)) _ := q _ (s1.trans s2)
          rw [fs2, fx_ns, fx_wa, b1] at q4
          exact ⟨x2, d2, t, ["write", "alone"], rfl, dp_same s2 _ _ e2, SqT.of upd_same, q4⟩
      · obtain ⟨x1, d1, rfl, rfl, e1⟩ := dpAll_1 e6' hfl
        have q2 : Q (.bl (fieldsD ["namespace"] [d1] o)) H1 := q1
        rw [fs1, fx_ns] at q2
        rw [str_eqF (by decide +kernel)]
        refine iteF ⟨_, rfl, a, _, _, _, rfl, rfl, SqL.of ha1, atI_nat (j := 0) rfl, x1, d1, 1, 8, rfl, e1, _, rfl, ?_⟩
        cases b1 : betwD 1 8 d1 with
        | false => rw [b1] at q2; exact iteT q2
        | true =>
          rw [b1] at q2
          refine iteF ⟨_, rfl, rfl, _, rfl, ?_⟩
          rw [str_eqF (by decide +kernel)]
          refine iteF ⟨_, rfl, rfl, _, rfl, ?_⟩
          rw [str_eqF (by decide +kernel)]
          refine iteF ⟨_, rfl, rfl, _, rfl, ?_⟩
          rw [str_eqF (by decide +kernel)]
          refine iteF ⟨_, rfl, rfl, _, rfl, ?_⟩
          rw [str_eqF (by decide +kernel)]
          refine iteF ⟨_, rfl, rfl, _, rfl, ?_⟩
          rw [str_eqF (by decide +kernel)]
          refine iteF ⟨_, rfl, rfl, _, rfl, ?_⟩
          rw [str_eqF (by decide +kernel)]
          refine iteF ⟨_, rfl, rfl, _, rfl, ?_⟩
          rw [str_eqF (by decide +kernel)]
          refine iteF ?_
          exact q2
      · obtain ⟨x1, x2, x3, d1, d2, d3, rfl, rfl, e1, e2, e3⟩ := dpAll_3 e6' hfl
        have q2 : Q (.bl (fieldsD ["namespace", "victim", "way or none"] [d1, d2, d3] o)) H1 := q1
        rw [fs3, fx_ns, fx_vi, fx_wn] at q2
        rw [str_eqF (by decide +kernel)]
        refine iteF ⟨_, rfl, a, _, _, _, rfl, rfl, SqL.of ha1, atI_nat (j := 0) rfl, x1, d1, 1, 8, rfl, e1, _, rfl, ?_⟩
        cases b1 : betwD 1 8 d1 with
        | false => rw [b1] at q2; exact iteT q2
        | true =>
          rw [b1] at q2
          refine iteF ⟨_, rfl, rfl, _, rfl, ?_⟩
          rw [str_eqF (by decide +kernel)]
          refine iteF ⟨_, rfl, rfl, _, rfl, ?_⟩
          rw [str_eqF (by decide +kernel)]
          refine iteF ⟨_, rfl, rfl, _, rfl, ?_⟩
          rw [str_eqF (by decide +kernel)]
          refine iteF ⟨_, rfl, rfl, _, rfl, ?_⟩
          rw [str_eqF (by decide +kernel)]
          refine iteF ⟨_, rfl, rfl, _, rfl, ?_⟩
          rw [str_eqF (by decide +kernel)]
          refine iteF ⟨_, rfl, rfl, _, rfl, ?_⟩
          rw [str_eqF (by decide +kernel)]
          refine iteF ⟨_, rfl, rfl, _, rfl, ?_⟩
          rw [str_eqT]
          refine iteT ?_
          have q3 : Q (.bl (betwD 0 3 d2 && (noneB d3 || strInD ["write", "alone"] d3))) H1 := q2
          refine ⟨_, rfl, a, _, _, _, rfl, rfl, SqL.of ha1, atI_nat (j := 1) rfl, x2, d2, 0, 3, rfl, e2, _, rfl, ?_⟩
          cases b2 : betwD 0 3 d2 with
          | false => rw [b2] at q3; exact iteF q3
          | true =>
            rw [b2] at q3
            refine iteT ⟨_, rfl, a, _, _, _, rfl, rfl, SqL.of ha1, atI_nat (j := 2) rfl, rfl, _, rfl, ?_⟩
            rw [dp_non e3]
            cases n3 : noneB d3 with
            | true => rw [n3] at q3; exact iteT q3
            | false =>
              refine iteF ⟨_, rfl, a, _, _, _, rfl, rfl, SqL.of ha1, atI_nat (j := 2) rfl, by show 2 ≤ sizeLine; decide, fun t ht => ?_⟩
              have s2 := same_new (o := .tup [.str "write", .str "alone"]) ht
              have q4 : Q (.bl (fieldsD ["namespace", "victim", "way or none"] [d1, d2, d3] o)) _ := q _ (s1.trans s2)
              rw [fs3, fx_ns, fx_vi, fx_wn, b1, b2, n3] at q4
              exact ⟨x3, d3, t, ["write", "alone"], rfl, dp_same s2 _ _ e3, SqT.of upd_same, q4⟩
    · rw [decide_eq_false (show ¬ V.int (ys.length : Int) = V.int (((k, ns).2.length : Nat) : Int) by rw [hl6]; intro z; injection z with z; exact hfl (by exact_mod_cast z))]
      rw [decide_eq_false hfl] at q1
      exact iteT q1
end
end Sg

set_option Elab.async false
set_option linter.all false
set_option maxRecDepth 100000
set_option maxHeartbeats 8000000
namespace Sg
open PySem PySem.Spec PyProof.Rows L2
def spValid (K : PySem.W.Frag) : Sp := fun vs H Q _ => ∃ (x1 x2 x3 x4 x5 : V) (a : Addr) (ys : List V) (d1 d2 d3 d4 d5 : PyData) (fs : List PyData), vs = [x1, x2, x3, x4, x5, .ref a] ∧ H a = some (.lst ys) ∧
  Dp K H x1 d1 ∧ Dp K H x2 d2 ∧ Dp K H x3 d3 ∧ Dp K H x4 d4 ∧ Dp K H x5 d5 ∧ DpAll K H ys fs ∧ ∀ H', Same H H' → Q (.bl (recD (.tuple (d1 :: d2 :: d3 :: d4 :: d5 :: fs)))) H'
theorem counter_eq {k : Str} {c : Int} : counterD k (.int c) = (!decide (c < 0) && decide (decide (V.int c = V.int 0) = decide (V.str k = V.str "mark"))) := by
  unfold counterD
  have e0 : decide (V.int c = V.int 0) = decide (c = 0) := by
    by_cases h : c = 0
    · rw [h]; rfl
    · rw [decide_eq_false h, decide_eq_false (by intro z; cases z; exact h rfl)]
  rw [e0]
  by_cases hk : k = "mark"
  · rw [if_pos hk, hk, str_eqT]
    show (decide (0 ≤ c) && decide (c ≤ 0)) = _
    by_cases h : c = 0
    · subst h; rfl
    · rw [decide_eq_false h]
      have : (decide (0 ≤ c) && decide (c ≤ 0)) = false := by
        rw [Bool.and_eq_false_iff, decide_eq_false_iff_not, decide_eq_false_iff_not]; omega
      rw [this]
      simp
  · rw [if_neg hk, str_eqF hk]
    show decide (1 ≤ c) = _
    by_cases h : 1 ≤ c
    · rw [decide_eq_true h, decide_eq_false (show ¬ c < 0 by omega), decide_eq_false (show ¬ c = 0 by omega)]; rfl
    · rw [decide_eq_false h]
      by_cases h0 : c = 0
      · rw [decide_eq_true h0]; simp
      · rw [decide_eq_true (show c < 0 by omega)]; rfl
theorem rec_false {d3 d4 d5 : PyData} {k : Str} {ns : List Str} {o : Int} {fs : List PyData} (hl : fieldT.lookup k = some ns) (h : betwD 0 3 d3 = false ∨ atLeastD 1 d4 = false ∨ counterD k d5 = false) :
    recD (.tuple (.int o :: .str k :: d3 :: d4 :: d5 :: fs)) = false := by
  rw [rec_eq hl]
  rcases h with h | h | h <;> simp [h]
section
variable {P : Program} {wrl : World} {K : PySem.W.Frag} {mg : Str → Option Value} {base : Heap} {f fW fI fB fF aK aF : Addr} {fd fdW fdI fdB fdF : FuncData}
abbrev VN : List Str := ["order", "kind", "host", "session", "counter", "fields"]
theorem scValid : FnScope VN VN (defScope sValid) := ⟨rfl, rfl, rfl, by decide +kernel, rfl, by decide +kernel, by decide +kernel⟩
theorem ok_valid (F : Fun K "_law_valid" "_law_valid" sValid f fd) (B : Bds mg fW) (R : RX K wrl mg aK aF) (GI : Def P wrl K mg base CX0 "_law_integer" 1 ["value"] (spWhole K) fI fdI)
    (GB : Def P wrl K mg base CX0 "_law_within" 2 ["value", "low", "high"] (spBetween K) fB fdB) (GF : Def P wrl K mg base CX0 "_law_fit" 3 ["kind", "order", "fields"] (spFit K) fF fdF) :
    FnOk P wrl K mg base CX0 4 f fd VN (spValid K) := by
  refine F.ok scValid (fun vs H Q E h => ?_) (fun cdv A outer s H vs Q E hr h => ?_)
  · obtain ⟨x1, x2, x3, x4, x5, a, ys, d1, d2, d3, d4, d5, fs, rfl, _⟩ := h
    rfl
  · obtain ⟨x1, x2, x3, x4, x5, a, ys, d1, d2, d3, d4, d5, fs, rfl, ha, e1, e2, e3, e4, e5, e6, q⟩ := h
    have hr1 : Room 1 _ := hr.mono (by decide)
    have hr2 : Room 2 _ := hr.mono (by decide)
    obtain ⟨t2, ty2, _, _, k3, _⟩ := dp_ty e2
    refine ⟨_, pss_cons (ps_if (PW.pt (pw_or (pt_not (pt_val (pe_call GI.ok hr1 (by rfl) GI.mg GI.kp GI.bd .nil pass0 (pa_cons (pv 0) pa_nil)))) (pw_or (pt_cmpR op_lt (pv 0) pe_int (nomark _))
          (pw_or (pt_not (pt_val (pe_callB call_isi (by rfl) B.isi boot_isi (pa_cons (pv 1) (pa_cons (pe_bltn (v := .ty "str") (by rfl) B.str boot_str rfl) pa_nil))))) (pw_or1 (pt_cmpR op_notIn_seq (pv 1) (pe_glob (v := .ref aK) (by rfl) R.gK rfl) (by rfl))))))) (pss_one (ps_ret pe_bl)) pss_nil)
      (pss_cons (ps_if (PW.pt (pw_or (pt_not (pt_val (pe_call GB.ok hr2 (by rfl) GB.mg GB.kp GB.bd .nil pass0 (pa_cons (pv 2) (pa_cons pe_int (pa_cons pe_int pa_nil)))))) (pw_or (pt_not (pt_val (pe_call GI.ok hr1 (by rfl) GI.mg GI.kp GI.bd .nil pass0 (pa_cons (pv 3) pa_nil))))
          (pw_or (pt_cmpR op_lt (pv 3) pe_int (nomark _)) (pw_or1 (pt_not (pt_val (pe_call GI.ok hr1 (by rfl) GI.mg GI.kp GI.bd .nil pass0 (pa_cons (pv 4) pa_nil))))))))) (pss_one (ps_ret pe_bl)) pss_nil)
      (pss_cons (ps_if (PW.pt (pw_or (pt_cmpR op_lt (pv 4) pe_int (nomark _)) (pw_or1 (pt_cmpR op_ne (pe_cmpR op_eq (pv 4) pe_int (nomark _)) (pe_cmpR op_eq (pv 1) pe_str (nomark _)) (nomark _))))) (pss_one (ps_ret pe_bl)) pss_nil)
      (pss_one (ps_ret (pe_call GF.ok hr (by rfl) GF.mg GF.kp GF.bd .nil pass0 (pa_cons (pv 1) (pa_cons (pv 0) (pa_cons (pv 5) pa_nil)))))))), ?_⟩
    have q0 := q H (Same.refl H)
    refine ⟨_, rfl, x1, d1, rfl, e1, _, rfl, ?_⟩
    cases w1 : wholeD d1 with
    | false =>
      rw [rec_noint (not_whole_at w1)] at q0
      exact iteT (iteT q0)
    | true =>
      obtain ⟨o, rfl, rfl⟩ := whole_int e1 w1
      refine iteF ⟨_, rfl, _, _, rfl, rfl, _, rfl, ?_⟩
      by_cases c1 : o < 1
      · rw [decide_eq_true c1]
        rw [rec_noint (show atLeastD 1 (.int o) = false by rw [at_least_lt, decide_eq_true c1]; rfl)] at q0
        exact iteT (iteT q0)
      rw [decide_eq_false c1]
      refine iteF ⟨_, rfl, x2, _, t2, _, _, rfl, .ty "str", ty2, k3, _, rfl, ?_⟩
      cases hs2 : strB d2 with
      | false =>
        have : strInD kindsL d2 = false := by cases d2 <;> first | rfl | cases hs2
        rw [rec_nokind this] at q0
        exact iteT (iteT q0)
      | true =>
        obtain ⟨k, rfl, rfl⟩ : ∃ k, x2 = .str k ∧ d2 = .str k := by
          cases e2 <;> first | exact ⟨_, rfl, rfl⟩ | cases hs2
        have einv : inV (.str k) (kindsL.map V.str) = strIn k kindsL := inV_str
        refine iteF ⟨_, rfl, aK, _, rfl, .inr (R.sK H), rfl, flat_strs, _, rfl, ?_⟩
        rw [einv]
        cases hk : strIn k kindsL with
        | false =>
          rw [rec_nokind (show strInD kindsL (.str k) = false from hk)] at q0
          refine iteT ?_
          exact q0
        | true =>
          obtain ⟨ns, hmem, hlook⟩ := kind_in hk
          refine iteF ⟨_, rfl, x3, d3, 0, 3, rfl, e3, _, rfl, ?_⟩
          cases b3 : betwD 0 3 d3 with
          | false =>
            rw [rec_false (o := o) (fs := fs) (d3 := d3) (d4 := d4) (d5 := d5) hlook (.inl b3)] at q0
            exact iteT (iteT q0)
          | true =>
            refine iteF ⟨_, rfl, x4, d4, rfl, e4, _, rfl, ?_⟩
            cases w4 : wholeD d4 with
            | false =>
              rw [rec_false (o := o) (fs := fs) (d3 := d3) (d4 := d4) (d5 := d5) hlook (.inr (.inl (not_whole_at w4)))] at q0
              exact iteT (iteT q0)
            | true =>
              obtain ⟨se, rfl, rfl⟩ := whole_int e4 w4
              refine iteF ⟨_, rfl, _, _, rfl, rfl, _, rfl, ?_⟩
              by_cases c4 : se < 1
              · rw [decide_eq_true c4]
                rw [rec_false (o := o) (fs := fs) (d3 := d3) (d4 := .int se) (d5 := d5) hlook (.inr (.inl (show atLeastD 1 (.int se) = false by rw [at_least_lt, decide_eq_true c4]; rfl)))] at q0
                exact iteT (iteT q0)
              rw [decide_eq_false c4]
              refine iteF ⟨_, rfl, x5, d5, rfl, e5, _, rfl, ?_⟩
              cases w5 : wholeD d5 with
              | false =>
                have : counterD k d5 = false := by
                  unfold counterD
                  split
                  · exact not_whole_bt w5
                  · exact not_whole_at w5
                rw [rec_false (o := o) (fs := fs) (d3 := d3) (d4 := .int se) (d5 := d5) hlook (.inr (.inr this))] at q0
                exact iteT q0
              | true =>
                obtain ⟨co, rfl, rfl⟩ := whole_int e5 w5
                refine iteF ⟨_, rfl, _, _, rfl, rfl, _, rfl, ?_⟩
                by_cases c5 : co < 0
                · rw [decide_eq_true c5]
                  rw [rec_false (o := o) (fs := fs) (d3 := d3) (d4 := .int se) (d5 := .int co) hlook (.inr (.inr (by rw [counter_eq, decide_eq_true c5]; rfl)))] at q0
                  exact iteT (iteT q0)
                rw [decide_eq_false c5]
                refine iteF ⟨_, rfl, rfl, _, rfl, rfl, rfl, _, rfl, ?_⟩
                by_cases heq : decide (V.int co = V.int 0) = decide (V.str k = V.str "mark")
                · rw [decide_eq_true (show V.bl (decide (V.int co = V.int 0)) = V.bl (decide (V.str k = V.str "mark")) by rw [heq])]
                  refine iteF ⟨_, rfl, _, rfl, _, rfl, k, ns, o, a, ys, fs, rfl, hmem, ha, e6, fun H' s' => ?_⟩
                  have q1 := q H' s'
                  have a1 : decide ((1 : Int) ≤ o) = true := decide_eq_true (by omega)
                  have a4 : atLeastD 1 (.int se) = true := decide_eq_true (by omega)
                  have a5 : counterD k (.int co) = true := by rw [counter_eq, decide_eq_false c5, decide_eq_true heq]; rfl
                  rw [rec_eq hlook, a1, b3, a4, a5] at q1
                  exact q1
                · rw [decide_eq_false (show ¬ V.bl (decide (V.int co = V.int 0)) = V.bl (decide (V.str k = V.str "mark")) by intro z; injection z with z; exact heq z)]
                  rw [rec_false (o := o) (fs := fs) (d3 := d3) (d4 := .int se) (d5 := .int co) hlook (.inr (.inr (by rw [counter_eq, decide_eq_false heq, Bool.and_false])))] at q0
                  refine iteT ?_
                  exact q0
end
end Sg

set_option Elab.async false
set_option linter.all false
set_option maxRecDepth 100000
set_option maxHeartbeats 8000000
namespace Sg
open PySem PySem.Spec PyProof.Rows L2
theorem kit_self {K : PySem.W.Frag} {C : Addr} : PySem.W.kitOne K (.ref C) (.ref C) = some true := by
  unfold PySem.W.kitOne
  rw [if_pos (by simp)]
def spToldL (K : PySem.W.Frag) : Sp := fun vs H Q _ => ∃ (p a : Addr) (x1 x2 x3 x4 x5 : V) (ys : List V) (d1 d2 d3 d4 d5 : PyData) (fs : List PyData), vs = [.ref p, .ref a] ∧ H p = some (.lst [x1, x2, x3, x4, x5]) ∧ H a = some (.lst ys) ∧ ys.length ≤ 100 ∧
  Dp K H x1 d1 ∧ Dp K H x2 d2 ∧ Dp K H x3 d3 ∧ Dp K H x4 d4 ∧ Dp K H x5 d5 ∧ DpAll K H ys fs ∧
  (recD (.tuple (d1 :: d2 :: d3 :: d4 :: d5 :: fs)) = false → ∀ l H', Same H H' → H' l = some (.lst [.bl true]) → Q (.ref l) H') ∧
  (recD (.tuple (d1 :: d2 :: d3 :: d4 :: d5 :: fs)) = true → ∀ t H', Same H H' → H' t = some (.tup (x1 :: x2 :: x3 :: x4 :: x5 :: ys)) → Q (.ref t) H')
section
variable {P : Program} {wrl : World} {K : PySem.W.Frag} {mg : Str → Option Value} {base : Heap} {f fW fM CN CS aK aF : Addr} {fd fdW fdM : FuncData}
theorem scTold : FnScope ["parts", "fields", "e"] ["parts", "fields"] (defScope sTold) := ⟨rfl, rfl, rfl, by decide +kernel, rfl, by decide +kernel, by decide +kernel⟩
abbrev tSuite (K : PySem.W.Frag) (CN : Addr) (a : Addr) (cls : Value) (d : Option Addr) : TS := tRet (tLst (tCons (tCB (rIsX K a cls d) (tCons (tVar 2) (tCons (tC (.ref CN)) tNil))) tNil))
theorem ok_told (F : Fun K "_law_told" "_law_told" sTold f fd) (B : Bds mg fW) (T : NV K mg CN CS) (XC : ExcC K CN) (GM : Def P wrl K mg base (L2.CX P wrl) "make_record" 6 ["order", "kind", "host", "session", "counter", "fields"] (spMake K CN) fM fdM) :
    FnOk P wrl K mg base CX0 7 f fd ["parts", "fields"] (spToldL K) := by
  refine F.ok scTold (fun vs H Q E h => ?_) (fun cdv A outer s H vs Q E hr h => ?_)
  · obtain ⟨p, a, x1, x2, x3, x4, x5, ys, d1, d2, d3, d4, d5, fs, rfl, _⟩ := h
    rfl
  · obtain ⟨p, a, x1, x2, x3, x4, x5, ys, d1, d2, d3, d4, d5, fs, rfl, hp, ha, hl, e1, e2, e3, e4, e5, e6, k0, k1⟩ := h
    have ix : ∀ {X : Cx}, IxR X (rIxL X.K) := ix_list
    refine ⟨_, pss_one (ps_try_as (i := 2) (Wout := fun _ _ _ _ => False)
      (tb := fun W => tRet (tCallS (spMake K CN) (WE W) (tCons (tOp (rIxL K) (tVar 0) (tC (.int 0))) (tCons (tOp (rIxL K) (tVar 0) (tC (.int 1))) (tCons (tOp (rIxL K) (tVar 0) (tC (.int 2))) (tCons (tOp (rIxL K) (tVar 0) (tC (.int 3))) (tCons (tOp (rIxL K) (tVar 0) (tC (.int 4))) (tCons (tVar 1) tNil))))))))
      (ts := tSuite K CN) rfl rfl scTold.nd rfl rfl ⟨rfl, by decide, Or.inl T.gS⟩ takes0
      (fun W pn xe tk _ => pss_one (ps_ret (by exact (pe_callS GM.ok hr (by rfl) GM.mg GM.kp GM.bd (fun σ => passAt tk σ) (by exact (pa_cons (pe_ix ix_list (pv 0) pe_int (fun _ _ => rfl)) (pa_cons (pe_ix ix_list (pv 0) pe_int (fun _ _ => rfl)) (pa_cons (pe_ix ix_list (pv 0) pe_int (fun _ _ => rfl)) (pa_cons (pe_ix ix_list (pv 0) pe_int (fun _ _ => rfl)) (pa_cons (pe_ix ix_list (pv 0) pe_int (fun _ _ => rfl)) (pa_cons (pv 1) pa_nil)))))))))))
      (fun a oe cls d pn hz hf => pss_one (ps_ret (pe_lst (pa_cons (pe_callB (call_isX hz hf) (by rfl) B.isi boot_isi (pa_cons (pv 2) (pa_cons (pe_glob (v := .ref CN) (by rfl) T.gN rfl) pa_nil))) pa_nil))))), ?_⟩
    have hs := SqL.of (K := K) hp
    refine ⟨_, rfl, p, _, _, _, rfl, rfl, hs, atI_nat (j := 0) rfl, _, rfl, p, _, _, _, rfl, rfl, hs, atI_nat (j := 1) rfl, _, rfl, p, _, _, _, rfl, rfl, hs, atI_nat (j := 2) rfl, _, rfl, p, _, _, _, rfl, rfl, hs, atI_nat (j := 3) rfl, _, rfl, p, _, _, _, rfl, rfl, hs, atI_nat (j := 4) rfl, _, rfl, ?_⟩
    refine ⟨x1, x2, x3, x4, x5, a, ys, d1, d2, d3, d4, d5, fs, rfl, ha, hl, e1, e2, e3, e4, e5, e6, fun hb H' sm => ⟨true, T.eN, fun _ b hb' => ?_, fun z => Bool.noConfusion z⟩, fun hb t H' sm ht => k1 hb t H' sm ht⟩
    exact ⟨_, rfl, CN, _, .ref CN, true, rfl, rfl, XC, rfl, fun u hu => hu, kit_self, by show 1 ≤ sizeLine; decide, fun l hl => k0 hb l _ (sm.trans (same_new hl)) upd_same⟩
end
end Sg

set_option Elab.async false
set_option linter.all false
set_option maxRecDepth 100000
set_option maxHeartbeats 8000000
namespace Sg
open PySem PySem.Spec PyProof.Rows L2
def spTables : Sp := fun vs H Q _ => vs = [] ∧ ∀ H', Same H H' → Q (.bl true) H'
theorem dp_strs {K : PySem.W.Frag} {H : Hp} : ∀ {ns : List Str}, DpAll K H (ns.map V.str) (ns.map PyData.str)
  | [] => .nil
  | n :: ns => .cons (.str n) (dp_strs (ns := ns))
theorem dp_ints {K : PySem.W.Frag} {H : Hp} : ∀ {ns : List Int}, DpAll K H (ns.map V.int) (ns.map PyData.int)
  | [] => .nil
  | n :: ns => .cons (.int n) (dp_ints (ns := ns))
theorem cut_take {xs : List V} {n : Nat} (h : n ≤ xs.length) : cutV xs Option.none (some (n : Int)) = xs.take n := by
  unfold cutV
  rw [show HT.sIx xs.length 0 none = 0 from HT.sIx_none _ _, HT.sIx_nat, Nat.min_eq_left h]
  simp
theorem cut_drop {xs : List V} {n : Nat} (h : n ≤ xs.length) : cutV xs (some (n : Int)) Option.none = xs.drop n := by
  unfold cutV
  rw [show HT.sIx xs.length xs.length none = xs.length from HT.sIx_none _ _, HT.sIx_nat, Nat.min_eq_left h]
  exact List.take_of_length_le (by rw [List.length_drop]; omega)
theorem shaped_of {d : PyData} (h : d.canLay0 = true) (h' : d.depth ≤ 64) : SeqAt.shaped d = true := by
  show (d.canLay0 && decide (d.depth ≤ 64)) = true
  rw [Bool.and_eq_true]; exact ⟨h, decide_eq_true h'⟩
abbrev cntL : List Int := [1, 2, 1, 3, 2, 1, 2, 1, 2, 2, 1, 3]
theorem kind_at : ∀ i, i < 12 → ∃ p, p ∈ fieldT ∧ kindsL[i]? = some p.1 ∧ cntL[i]? = some (p.2.length : Int) := by decide +kernel
section
variable {P : Program} {wrl : World} {K : PySem.W.Frag} {mg : Str → Option Value} {base : Heap} {f fN aK aF : Addr} {fd fdN : FuncData}
theorem scTables : FnScope ["counts", "kind"] [] (defScope sTables) := ⟨rfl, rfl, rfl, by decide +kernel, rfl, by decide +kernel, by decide +kernel⟩
theorem ok_tables (F : Fun K "_law_tables" "_law_tables" sTables f fd) (R : RX K wrl mg aK aF) (GN : Def P wrl K mg base (L2.CX P wrl) "field_count" 2 ["kind"] spCount fN fdN) : FnOk P wrl K mg base CX0 3 f fd [] spTables := by
  obtain ⟨t1, hHo⟩ := R.gHo
  obtain ⟨t2, hNs⟩ := R.gNs
  obtain ⟨t3, hPl⟩ := R.gPl
  refine F.ok scTables (fun vs H Q E h => ?_) (fun cdv A outer s H vs Q E hr h => ?_)
  · obtain ⟨rfl, _⟩ := h
    rfl
  · obtain ⟨rfl, q⟩ := h
    refine ⟨_, pss_cons (ps_if (pt_cmpR (op_neD hr.units) (pe_slice sl_any (pe_glob (v := .ref aK) (by rfl) R.gK rfl) po_none (po_some pe_int)) (pe_tup (pa_cons pe_str (pa_cons pe_str (pa_cons pe_str (pa_cons pe_str (pa_cons pe_str (pa_cons pe_str (pa_cons pe_str pa_nil)))))))) (nomark _)) (pss_one (ps_ret pe_bl)) pss_nil)
      (pss_cons (ps_if (PW.pt (pw_or (pt_cmpR (op_neD hr.units) (pe_slice sl_any (pe_glob (v := .ref aK) (by rfl) R.gK rfl) (po_some pe_int) po_none) (pe_tup (pa_cons pe_str (pa_cons pe_str (pa_cons pe_str (pa_cons pe_str (pa_cons pe_str pa_nil)))))) (nomark _)) (pw_or1 (pt_cmpR op_ne (pe_glob (v := .int 4) (by rfl) hHo ⟨_, rfl⟩) pe_int (nomark _))))) (pss_one (ps_ret pe_bl)) pss_nil)
      (pss_cons (ps_setLc (i := 0) (own := [("kind", 1)]) (g := gName 1) (tt := tYes) (te := tCall spCount [] E0 (tCons (tVar 1) tNil)) (by rfl) scTables.nd rfl rfl (sw_true rfl rfl rfl (by decide +kernel)) (pi_tup (pe_glob (v := .ref aK) (by rfl) R.gK rfl))
          (blkOk_by (own := [("kind", 1)]) (N := ["counts", "kind"]) (sc := defScope sTables) (by decide +kernel)) (fun _ _ _ _ _ => pg_name (i := 1) scTables.nd rfl (Or.inl rfl)) (fun _ _ _ _ _ => pts_nil)
          (fun _ _ _ _ _ => by exact (pe_call GN.ok hr (by rfl) GN.mg GN.kp GN.bd .nil passL (pa_cons (pv 1) pa_nil))))
      (pss_one (ps_ret (pe_and (pe_cmpR (op_eqD hr.units) (pv 0) (pe_lst (pa_cons pe_int (pa_cons pe_int (pa_cons pe_int (pa_cons pe_int (pa_cons pe_int (pa_cons pe_int (pa_cons pe_int (pa_cons pe_int (pa_cons pe_int (pa_cons pe_int (pa_cons pe_int (pa_cons pe_int pa_nil))))))))))))) (nomark _))
          (pe_and (pe_cmpR op_eq (pe_glob (v := .int 64) (by rfl) hPl ⟨_, rfl⟩) pe_int (nomark _)) (pe_one (pe_cmpR op_eq (pe_glob (v := .int 8) (by rfl) hNs ⟨_, rfl⟩) pe_int (nomark _))))))))), ?_⟩
    refine ⟨7, rfl, aK, _, rfl, R.sK H, fun p H1 s1 hp => ?_⟩
    have c7 : cutV (kindsL.map V.str) Option.none (some 7) = (["mark", "make", "remove", "write", "trim", "snap", "drop"] : List Str).map V.str := (cut_take (n := 7) (by decide)).trans rfl
    rw [c7] at hp
    refine ⟨by show 7 ≤ sizeLine; decide, fun t ht => ?_⟩
    have s2 := same_new (o := .tup [.str "mark", .str "make", .str "remove", .str "write", .str "trim", .str "snap", .str "drop"]) ht
    have sh7 : SeqAt.shaped (.tuple ((["mark", "make", "remove", "write", "trim", "snap", "drop"] : List Str).map PyData.str)) = true := by decide +kernel
    refine ⟨_, _, .tup (SqT_same s2 hp) dp_strs, .tup (SqT.of upd_same) (dp_strs (ns := ["mark", "make", "remove", "write", "trim", "snap", "drop"])), sh7, sh7, _, rfl, ?_⟩
    rw [SeqAt.eqv_refl _ (SeqAt.canLay_of_shaped sh7)]
    refine iteF ?_
    have s12 := s1.trans s2
    generalize upd H1 t (.tup [.str "mark", .str "make", .str "remove", .str "write", .str "trim", .str "snap", .str "drop"]) = H2 at s12
    refine ⟨7, rfl, aK, _, rfl, R.sK H2, fun p2 H3 s3 hp2 => ?_⟩
    have c5 : cutV (kindsL.map V.str) (some 7) Option.none = (["register", "leave", "reserve", "release", "preempt"] : List Str).map V.str := (cut_drop (n := 7) (by decide)).trans rfl
    rw [c5] at hp2
    refine ⟨by show 5 ≤ sizeLine; decide, fun t ht => ?_⟩
    have s4 := same_new (o := .tup [.str "register", .str "leave", .str "reserve", .str "release", .str "preempt"]) ht
    have sh5 : SeqAt.shaped (.tuple ((["register", "leave", "reserve", "release", "preempt"] : List Str).map PyData.str)) = true := by decide +kernel
    refine ⟨_, _, .tup (SqT_same s4 hp2) dp_strs, .tup (SqT.of upd_same) (dp_strs (ns := ["register", "leave", "reserve", "release", "preempt"])), sh5, sh5, _, rfl, ?_⟩
    rw [SeqAt.eqv_refl _ (SeqAt.canLay_of_shaped sh5)]
    refine iteF ⟨rfl, _, rfl, ?_⟩
    rw [decide_eq_true rfl]
    refine iteF ?_
    have s14 := (s12.trans s3).trans s4
    generalize upd H3 t (.tup [.str "register", .str "leave", .str "reserve", .str "release", .str "preempt"]) = H4 at s14
    refine ⟨aK, rfl, ⟨_, R.sK H4⟩, fun D hD => ?_⟩
    refine lc_tup (K := K) (a := aK) (xs := kindsL.map V.str) (fun i H' => i ≤ 12 ∧ Same H4 H' ∧ H' D = some (.lst ((cntL.map V.int).take i))) ⟨Nat.zero_le _, same_new hD, upd_same⟩ (fun i H' _ _ => R.sK H') ?_ ?_
    · rintro i x H' hi ⟨_, sm, hDl⟩
      have hil : i < 12 := (List.getElem?_eq_some_iff.mp hi).1
      obtain ⟨p, hpm, hk, hc⟩ := kind_at i hil
      obtain ⟨z, hz, rfl⟩ := map_get hi
      rw [hk] at hz; cases hz
      refine ⟨rfl, yesIte ?_⟩
      refine ⟨_, rfl, p, hpm, rfl, _, hDl, ?_, by omega, ?_, ?_⟩
      · rw [List.length_take]; exact small1000 (by show min i 12 ≤ 1000; omega)
      · intro y o hy'
        rw [upd_ne (ne_of_none hy' hD)]
        exact sm _ _ hy'
      · rw [upd_same, List.take_add_one, List.getElem?_map, hc]; rfl
    · rintro H' ⟨_, sm, hDl⟩
      have hDl' : H' D = some (.lst (cntL.map V.int)) := hDl
      refine ⟨_, rfl, by show 12 ≤ sizeLine; decide, fun l hl => ?_⟩
      have s6 := same_new (o := .lst (cntL.map V.int)) hl
      have sh : SeqAt.shaped (.list (cntL.map PyData.int)) = true := by decide +kernel
      refine ⟨_, _, .lst (SqL.of (s6 _ _ hDl')) dp_ints, .lst (SqL.of upd_same) (dp_ints (ns := cntL)), sh, sh, _, rfl, ?_⟩
      rw [SeqAt.eqv_refl _ (SeqAt.canLay_of_shaped sh)]
      refine iteT ⟨rfl, _, rfl, ?_⟩
      rw [decide_eq_true rfl]
      refine iteT ⟨rfl, ?_⟩
      rw [decide_eq_true rfl]
      exact q _ (s14.trans (sm.trans s6))
end
end Sg

set_option Elab.async false
set_option linter.all false
set_option maxRecDepth 100000
set_option maxHeartbeats 8000000
namespace Sg
open PySem PySem.Spec PyProof.Rows L2
/-! data that has no list in it -/
mutual
def noL : PyData → Bool
  | .list _ => false
  | .dict _ => false
  | .tuple ds => noLAll ds
  | .none => true
  | .bool _ => true
  | .int _ => true
  | .str _ => true
def noLAll : List PyData → Bool
  | [] => true
  | d :: ds => noL d && noLAll ds
end
/-- small data -/
def Sm (d : PyData) : Prop := d.canLay0 = true ∧ d.depth ≤ 3 ∧ noL d = true
theorem sm_int {i : Int} : Sm (.int i) := ⟨by simp [PyData.canLay0], by simp [PyData.depth], by simp [noL]⟩
theorem sm_bl {b : Bool} : Sm (.bool b) := ⟨by simp [PyData.canLay0], by simp [PyData.depth], by simp [noL]⟩
theorem sm_non : Sm .none := ⟨by simp [PyData.canLay0], by simp [PyData.depth], by simp [noL]⟩
theorem SqT_upd {K : PySem.W.Frag} {H : Hp} {p a : Addr} {zs xs : List V} {o : HO} (hp : H p = some (.lst zs)) (h : SqT K H a xs) : SqT K (upd H p o) a xs := by
  rcases h with (h | ⟨o', h⟩) | h
  · exact .inl (.inl (by rw [upd_ne (ne_of h hp (by intro z; cases z))]; exact h))
  · exact .inl (.inr ⟨o', by rw [upd_ne (ne_of h hp (by intro z; cases z))]; exact h⟩)
  · exact .inr h
mutual
theorem dp_upd {K : PySem.W.Frag} {H : Hp} {p : Addr} {zs : List V} {o : HO} (hp : H p = some (.lst zs)) : ∀ (d : PyData) (x : V), noL d = true → Dp K H x d → Dp K (upd H p o) x d
  | .none, _, _, h => by cases h; exact .non
  | .bool _, _, _, h => by cases h; exact .bl _
  | .int _, _, _, h => by cases h; exact .int _
  | .str _, _, _, h => by cases h; exact .str _
  | .list ds, _, n, h => by simp [noL] at n
  | .tuple ds, _, n, h => by
    cases h with
    | tup hs ha => exact .tup (SqT_upd hp hs) (dpAll_upd hp ds _ (by simpa [noL] using n) ha)
  | .dict _, _, _, h => by cases h
theorem dpAll_upd {K : PySem.W.Frag} {H : Hp} {p : Addr} {zs : List V} {o : HO} (hp : H p = some (.lst zs)) : ∀ (ds : List PyData) (xs : List V), noLAll ds = true → DpAll K H xs ds → DpAll K (upd H p o) xs ds
  | [], _, _, h => by cases h; exact .nil
  | d :: ds, _, n, h => by
    cases h with
    | cons a b =>
      have n' : noL d = true ∧ noLAll ds = true := by simpa [noLAll] using n
      exact .cons (dp_upd hp d _ n'.1 a) (dpAll_upd hp ds _ n'.2 b)
end
theorem noL_all : ∀ {fs : List PyData}, (∀ d ∈ fs, Sm d) → noLAll fs = true
  | [], _ => by simp [noLAll]
  | d :: ds, h => by
    simp only [noLAll, Bool.and_eq_true]
    exact ⟨(h d List.mem_cons_self).2.2, noL_all fun e he => h e (List.mem_cons_of_mem _ he)⟩
def spFields (K : PySem.W.Frag) : Sp := fun vs H Q _ => ∃ (k : Str) (o nu pk : Int), vs = [.str k, .int o, .int nu, .int pk] ∧ 1 ≤ o ∧ 0 ≤ nu ∧ 0 ≤ pk ∧
  ∀ l ys fs H', H l = Option.none → Same H H' → H' l = some (.lst ys) → DpAll K H' ys fs → (∀ d ∈ fs, Sm d) → 1 ≤ ys.length → ys.length ≤ 3 → Q (.ref l) H'
theorem at_pos {xs : List V} {i n : Int} (hn : 0 < n) (hl : (xs.length : Int) = n) (hi : i = i) : ∃ v, atI xs (i % n) = some v ∧ ∃ j, j < xs.length ∧ xs[j]? = some v ∧ ((j : Nat) : Int) = i % n := by
  have h1 := Int.emod_nonneg i (show n ≠ 0 by omega)
  have h2 := Int.emod_lt_of_pos i hn
  have hj : (i % n).toNat < xs.length := by omega
  refine ⟨xs[(i % n).toNat], ?_, (i % n).toNat, hj, List.getElem?_eq_getElem hj, by omega⟩
  have := atI_nat (xs := xs) (j := (i % n).toNat) (List.getElem?_eq_getElem hj)
  rwa [show (((i % n).toNat : Nat) : Int) = i % n by omega] at this
section
variable {P : Program} {wrl : World} {K : PySem.W.Frag} {mg : Str → Option Value} {base : Heap} {f : Addr} {fd : FuncData}
theorem scFields : FnScope ["kind", "order", "number", "pick", "first"] ["kind", "order", "number", "pick"] (defScope sFields) := ⟨rfl, rfl, rfl, by decide +kernel, rfl, by decide +kernel, by decide +kernel⟩
theorem ok_fields (F : Fun K "_law_fields" "_law_fields" sFields f fd) (hmax : mg "max" = none) : FnOk P wrl K mg base CX0 1 f fd ["kind", "order", "number", "pick"] (spFields K) := by
  refine F.ok scFields (fun vs H Q E h => ?_) (fun cdv A outer s H vs Q E hr h => ?_)
  · obtain ⟨k, o, nu, pk, rfl, _⟩ := h
    rfl
  · obtain ⟨k, o, nu, pk, rfl, ho, hnu, hpk, q⟩ := h
    refine ⟨_, pss_cons (ps_set (i := 4) scFields.nd rfl (Or.inl rfl) (pe_op op_add pe_int (pe_op op_mod (pv 2) pe_int)))
      (pss_cons (ps_if (pt_cmpR op_eq (pv 0) pe_str (nomark _)) (pss_one (ps_ret (pe_lst (pa_cons (pe_ix ix_list (pe_lst (pa_cons pe_non (pa_cons (pe_tup (pa_cons (pe_op op_add pe_int (pe_op op_mod (pv 3) pe_int)) (pa_cons (pe_op op_mod (pe_op op_fdiv (pv 3) pe_int) pe_int)
            (pa_cons (pe_ix ix_list (pe_lst (pa_cons pe_non (pa_cons (pe_tup (pa_cons pe_str (pa_cons pe_non pa_nil))) (pa_cons (pe_tup (pa_cons pe_str (pa_cons (pv 3) pa_nil))) pa_nil)))) (pe_op op_mod (pv 3) pe_int) (fun _ _ => rfl)) pa_nil)))) pa_nil))) (pe_op op_mod (pv 2) pe_int) (fun _ _ => rfl)) pa_nil)))) pss_nil)
      (pss_cons (ps_if (pt_cmpR op_eq (pv 0) pe_str (nomark _)) (pss_one (ps_ret (pe_lst (pa_cons (pv 4) (pa_cons (pe_op op_add pe_int (pe_op op_mod (pv 3) pe_int)) pa_nil))))) pss_nil)
      (pss_cons (ps_if (pt_cmpR op_eq (pv 0) pe_str (nomark _)) (pss_one (ps_ret (pe_lst (pa_cons (pv 4) (pa_cons (pe_cmpR op_eq (pe_op op_mod (pv 3) pe_int) pe_int (nomark _)) pa_nil))))) pss_nil)
      (pss_cons (ps_if (pt_cmpR op_eq (pv 0) pe_str (nomark _)) (pss_one (ps_ret (pe_lst (pa_cons (pv 4) (pa_cons (pe_op op_mod (pv 3) pe_int) (pa_cons (pe_ix ix_list (pe_lst (pa_cons (pv 3) (pa_cons (pe_un un_neg (pv 3)) (pa_cons (pe_op op_pow pe_int pe_int) (pa_cons pe_int pa_nil))))) (pe_op op_mod (pv 2) pe_int) (fun _ _ => rfl)) pa_nil)))))) pss_nil)
      (pss_cons (ps_if (pt_cmpR op_eq (pv 0) pe_str (nomark _)) (pss_one (ps_ret (pe_lst (pa_cons (pv 4) (pa_cons (pe_op op_mod (pv 3) pe_int) pa_nil))))) pss_nil)
      (pss_cons (ps_if (pt_cmpR op_eq (pv 0) pe_str (nomark _)) (pss_one (ps_ret (pe_lst (pa_cons (pv 4) (pa_cons (pe_op op_add pe_int (pe_op op_mod (pv 3) (pe_callB (call_max2 rfl) (by rfl) hmax (by decide +kernel) (pa_cons pe_int (pa_cons (pe_op op_sub (pv 1) pe_int) pa_nil))))) pa_nil))))) pss_nil)
      (pss_cons (ps_if (pt_cmpR op_eq (pv 0) pe_str (nomark _)) (pss_one (ps_ret (pe_lst (pa_cons (pv 4) (pa_cons (pe_ix ix_list (pe_lst (pa_cons pe_str (pa_cons pe_str pa_nil))) (pe_op op_mod (pv 3) pe_int) (fun _ _ => rfl)) pa_nil))))) pss_nil)
      (pss_cons (ps_if (pt_cmpR op_eq (pv 0) pe_str (nomark _)) (pss_one (ps_ret (pe_lst (pa_cons (pv 4) (pa_cons (pe_op op_mod (pv 3) pe_int) (pa_cons (pe_ix ix_list (pe_lst (pa_cons pe_str (pa_cons pe_str (pa_cons pe_non pa_nil)))) (pe_op op_mod (pe_op op_fdiv (pv 3) pe_int) pe_int) (fun _ _ => rfl)) pa_nil)))))) pss_nil)
      (pss_one (ps_ret (pe_lst (pa_cons (pv 4) pa_nil)))))))))))), ?_⟩
    refine ⟨_, rfl, _, _, rfl, rfl, (by show (0 : Int) < 8; decide), _, _, rfl, rfl, ?_⟩
    have fin : ∀ (H1 : Hp) (ys : List V) (fs : List PyData), Same H H1 → DpAll K H1 ys fs → (∀ d ∈ fs, Sm d) → 1 ≤ ys.length → ys.length ≤ 3 → ∀ l, H1 l = Option.none → Q (.ref l) (upd H1 l (.lst ys)) := fun H1 ys fs s a b c d l hl =>
      q l ys fs _ (s.free hl) (s.trans (same_new hl)) upd_same (dpAll_same (same_new hl) _ _ a) b c d
    have nx : ∀ {x y : Str}, ¬ x = y → decide (V.str x = V.str y) = false := fun h => str_eqF h
    have two : ∀ {d1 d2 : PyData}, Sm d1 → Sm d2 → ∀ d ∈ [d1, d2], Sm d := fun h1 h2 d hd => by
      simp only [List.mem_cons, List.not_mem_nil, or_false] at hd
      rcases hd with rfl | rfl <;> assumption
    have three : ∀ {d1 d2 d3 : PyData}, Sm d1 → Sm d2 → Sm d3 → ∀ d ∈ [d1, d2, d3], Sm d := fun h1 h2 h3 d hd => by
      simp only [List.mem_cons, List.not_mem_nil, or_false] at hd
      rcases hd with rfl | rfl | rfl <;> assumption
    have one : ∀ {d1 : PyData}, Sm d1 → ∀ d ∈ [d1], Sm d := fun h1 d hd => by
      simp only [List.mem_cons, List.not_mem_nil, or_false] at hd
      rw [hd]; assumption
    refine ⟨_, rfl, rfl, _, rfl, ?_⟩
    by_cases h1 : k = "mark"
    · subst h1
      rw [str_eqT]
      refine iteT ?_
      refine ⟨_, rfl, _, _, rfl, rfl, (by show (0 : Int) < 9; decide), _, _, rfl, rfl, _, rfl, _, _, rfl, rfl, ⟨by decide, by decide⟩, _, _, rfl, rfl, (by show (0 : Int) < 5; decide), by show 2 ≤ sizeLine; decide, fun t1 ht1 => ⟨_, rfl, by show 2 ≤ sizeLine; decide, fun t2 ht2 => ⟨by show 3 ≤ sizeLine; decide, fun l1 hl1 => ?_⟩⟩⟩
      have u1 := same_new (o := .tup [.str "ok", .non]) ht1
      have u2 := same_new (o := .tup [.str "ok", .int pk]) ht2
      have u3 := same_new (o := .lst [.non, .ref t1, .ref t2]) hl1
      have g1 := u3 _ _ (u2 _ _ (upd_same (H := H) (a := t1) (o := .tup [.str "ok", .non])))
      have g2 := u3 _ _ (upd_same (H := upd H t1 (.tup [.str "ok", .non])) (a := t2) (o := .tup [.str "ok", .int pk]))
      have hok : (PyData.str "ok").canLay0 = true := by simp only [PyData.canLay0]; decide +kernel
      obtain ⟨v, hv, j, hj, hjv, _⟩ := at_pos (xs := [.non, .ref t1, .ref t2]) (i := pk) (n := 3) (by decide) rfl rfl
      obtain ⟨dv, hdv, hsv⟩ : ∃ dv, Dp K (upd (upd (upd H t1 (.tup [.str "ok", .non])) t2 (.tup [.str "ok", .int pk])) l1 (.lst [.non, .ref t1, .ref t2])) v dv ∧ dv.canLay0 = true ∧ dv.depth ≤ 1 ∧ noL dv = true := by
        match j, hj, hjv with
        | 0, _, h => rw [← Option.some.inj h]; exact ⟨.none, .non, by simp [PyData.canLay0], by simp [PyData.depth], by simp [noL]⟩
        | 1, _, h => rw [← Option.some.inj h]; exact ⟨.tuple [.str "ok", .none], .tup (SqT.of g1) (.cons (.str _) (.cons .non .nil)), by simp [PyData.canLay0, PyData.canLayAll0] at hok ⊢; exact hok, by simp [PyData.depth, PyData.depthAll], by simp [noL, noLAll]⟩
        | 2, _, h => rw [← Option.some.inj h]; exact ⟨.tuple [.str "ok", .int pk], .tup (SqT.of g2) (.cons (.str _) (.cons (.int _) .nil)), by simp [PyData.canLay0, PyData.canLayAll0] at hok ⊢; exact hok, by simp [PyData.depth, PyData.depthAll], by simp [noL, noLAll]⟩
      refine ⟨_, rfl, _, _, rfl, rfl, (by show (0 : Int) < 3; decide), l1, _, _, v, rfl, rfl, SqL.of upd_same, hv, by show 3 ≤ sizeLine; decide, fun t3 ht3 => ⟨by show 2 ≤ sizeLine; decide, fun l2 hl2 => ?_⟩⟩
      have u4 := same_new (o := .tup [.int (1 + pk % 9), .int (pk / 9 % 5), v]) ht3
      have u5 := same_new (o := .lst [.non, .ref t3]) hl2
      obtain ⟨w, hw, j2, hj2, hjw, _⟩ := at_pos (xs := [.non, .ref t3]) (i := nu) (n := 2) (by decide) rfl rfl
      obtain ⟨dw, hdw, hsw⟩ : ∃ dw, Dp K (upd (upd (upd (upd (upd H t1 (.tup [.str "ok", .non])) t2 (.tup [.str "ok", .int pk])) l1 (.lst [.non, .ref t1, .ref t2])) t3 (.tup [.int (1 + pk % 9), .int (pk / 9 % 5), v])) l2 (.lst [.non, .ref t3])) w dw ∧ Sm dw := by
        match j2, hj2, hjw with
        | 0, _, h => rw [← Option.some.inj h]; exact ⟨.none, .non, sm_non⟩
        | 1, _, h =>
          rw [← Option.some.inj h]
          refine ⟨.tuple [.int (1 + pk % 9), .int (pk / 9 % 5), dv], .tup (SqT.of (u5 _ _ upd_same)) (.cons (.int _) (.cons (.int _) (.cons (dp_same (u4.trans u5) _ _ hdv) .nil))), by simp [PyData.canLay0, PyData.canLayAll0, hsv.1], ?_, by simp [noL, noLAll, hsv.2.2]⟩
          have := hsv.2.1
          simp only [PyData.depth, PyData.depthAll]; omega
      exact ⟨_, rfl, _, _, rfl, rfl, (by show (0 : Int) < 2; decide), l2, _, _, w, rfl, rfl, SqL.of upd_same, hw, by show 1 ≤ sizeLine; decide, fin _ _ [_] (u1.trans (u2.trans (u3.trans (u4.trans u5)))) (.cons hdw .nil) (one hsw) (by simp) (by simp)⟩
    rw [nx h1]
    refine iteF ⟨_, rfl, rfl, _, rfl, ?_⟩
    by_cases h2 : k = "make"
    · subst h2
      rw [str_eqT]
      exact iteT ⟨_, rfl, _, rfl, _, _, rfl, rfl, (by show (0 : Int) < 64; decide), _, _, rfl, rfl, by show 2 ≤ sizeLine; decide, fin _ _ [_, _] (Same.refl H) (.cons (.int _) (.cons (.int _) .nil)) (two sm_int sm_int) (by simp) (by simp)⟩
    rw [nx h2]
    refine iteF ⟨_, rfl, rfl, _, rfl, ?_⟩
    by_cases h3 : k = "leave"
    · subst h3
      rw [str_eqT]
      exact iteT ⟨_, rfl, _, rfl, _, _, rfl, rfl, (by show (0 : Int) < 2; decide), rfl, by show 2 ≤ sizeLine; decide, fin _ _ [_, _] (Same.refl H) (.cons (.int _) (.cons (.bl _) .nil)) (two sm_int sm_bl) (by simp) (by simp)⟩
    rw [nx h3]
    refine iteF ⟨_, rfl, rfl, _, rfl, ?_⟩
    by_cases h4 : k = "write"
    · subst h4
      rw [str_eqT]
      refine iteT ⟨_, rfl, _, rfl, _, _, rfl, rfl, (by show (0 : Int) < 64; decide), _, rfl, _, rfl, _, rfl, _, _, rfl, rfl, ⟨by decide, by decide, by decide⟩, by show 4 ≤ sizeLine; decide, fun l1 hl1 => ?_⟩
      have s1 := same_new (o := .lst [.int pk, .int (-pk), .int 100000000000000000000, .int 0]) hl1
      obtain ⟨v, hv, j, hj, hjv, _⟩ := at_pos (xs := [.int pk, .int (-pk), .int 100000000000000000000, .int 0]) (i := nu) (n := 4) (by decide) rfl rfl
      obtain ⟨z, rfl⟩ : ∃ z, v = .int z := by
        match j, hj, hjv with
        | 0, _, h => exact ⟨_, (Option.some.inj h).symm⟩
        | 1, _, h => exact ⟨_, (Option.some.inj h).symm⟩
        | 2, _, h => exact ⟨_, (Option.some.inj h).symm⟩
        | 3, _, h => exact ⟨_, (Option.some.inj h).symm⟩
      exact ⟨_, rfl, _, _, rfl, rfl, (by show (0 : Int) < 4; decide), l1, _, _, _, rfl, rfl, SqL.of upd_same, hv, by show 3 ≤ sizeLine; decide, fin _ _ [_, _, _] s1 (.cons (.int _) (.cons (.int _) (.cons (.int _) .nil))) (three sm_int sm_int sm_int) (by simp) (by simp)⟩
    rw [nx h4]
    refine iteF ⟨_, rfl, rfl, _, rfl, ?_⟩
    by_cases h5 : k = "trim"
    · subst h5
      rw [str_eqT]
      exact iteT ⟨_, rfl, _, rfl, _, _, rfl, rfl, (by show (0 : Int) < 64; decide), by show 2 ≤ sizeLine; decide, fin _ _ [_, _] (Same.refl H) (.cons (.int _) (.cons (.int _) .nil)) (two sm_int sm_int) (by simp) (by simp)⟩
    rw [nx h5]
    refine iteF ⟨_, rfl, rfl, _, rfl, ?_⟩
    by_cases h6 : k = "drop"
    · subst h6
      rw [str_eqT]
      refine iteT ⟨_, rfl, _, rfl, _, rfl, _, _, rfl, rfl, 1, _, rfl, _, _, rfl, rfl, ?_, _, _, rfl, rfl, by show 2 ≤ sizeLine; decide, fin _ _ [_, _] (Same.refl H) (.cons (.int _) (.cons (.int _) .nil)) (two sm_int sm_int) (by simp) (by simp)⟩
      first | omega | (split <;> omega)
    rw [nx h6]
    refine iteF ⟨_, rfl, rfl, _, rfl, ?_⟩
    by_cases h7 : k = "reserve"
    · subst h7
      rw [str_eqT]
      refine iteT ⟨_, rfl, by show 2 ≤ sizeLine; decide, fun l1 hl1 => ?_⟩
      have s1 := same_new (o := .lst [.str "write", .str "alone"]) hl1
      obtain ⟨v, hv, j, hj, hjv, _⟩ := at_pos (xs := [.str "write", .str "alone"]) (i := pk) (n := 2) (by decide) rfl rfl
      obtain ⟨z, rfl, hz⟩ : ∃ z, v = .str z ∧ Sm (.str z) := by
        match j, hj, hjv with
        | 0, _, h => exact ⟨_, (Option.some.inj h).symm, by simp only [PyData.canLay0]; decide +kernel, by simp [PyData.depth], by simp [noL]⟩
        | 1, _, h => exact ⟨_, (Option.some.inj h).symm, by simp only [PyData.canLay0]; decide +kernel, by simp [PyData.depth], by simp [noL]⟩
      exact ⟨_, rfl, _, _, rfl, rfl, (by show (0 : Int) < 2; decide), l1, _, _, _, rfl, rfl, SqL.of upd_same, hv, by show 2 ≤ sizeLine; decide, fin _ _ [_, _] s1 (.cons (.int _) (.cons (.str _) .nil)) (two sm_int hz) (by simp) (by simp)⟩
    rw [nx h7]
    refine iteF ⟨_, rfl, rfl, _, rfl, ?_⟩
    by_cases h8 : k = "preempt"
    · subst h8
      rw [str_eqT]
      refine iteT ⟨_, rfl, _, rfl, _, _, rfl, rfl, (by show (0 : Int) < 4; decide), by show 3 ≤ sizeLine; decide, fun l1 hl1 => ?_⟩
      have s1 := same_new (o := .lst [.str "write", .str "alone", .non]) hl1
      obtain ⟨v, hv, j, hj, hjv, _⟩ := at_pos (xs := [.str "write", .str "alone", .non]) (i := pk / 4) (n := 3) (by decide) rfl rfl
      obtain ⟨dz, hdz, hz⟩ : ∃ dz, Dp K (upd H l1 (.lst [.str "write", .str "alone", .non])) v dz ∧ Sm dz := by
        match j, hj, hjv with
        | 0, _, h => rw [← Option.some.inj h]; exact ⟨_, .str _, by simp only [PyData.canLay0]; decide +kernel, by simp [PyData.depth], by simp [noL]⟩
        | 1, _, h => rw [← Option.some.inj h]; exact ⟨_, .str _, by simp only [PyData.canLay0]; decide +kernel, by simp [PyData.depth], by simp [noL]⟩
        | 2, _, h => rw [← Option.some.inj h]; exact ⟨_, .non, sm_non⟩
      exact ⟨_, rfl, _, _, rfl, rfl, ⟨by decide, by decide⟩, _, _, rfl, rfl, (by show (0 : Int) < 3; decide), l1, _, _, _, rfl, rfl, SqL.of upd_same, hv, by show 3 ≤ sizeLine; decide, fin _ _ [_, _, _] s1 (.cons (.int _) (.cons (.int _) (.cons hdz .nil))) (three sm_int sm_int hz) (by simp) (by simp)⟩
    rw [nx h8]
    exact iteF ⟨_, rfl, by show 1 ≤ sizeLine; decide, fin _ _ [_] (Same.refl H) (.cons (.int _) .nil) (one sm_int) (by simp) (by simp)⟩
end
end Sg

set_option Elab.async false
set_option linter.all false
set_option maxRecDepth 100000
set_option maxHeartbeats 8000000
namespace Sg
open PySem PySem.Spec PyProof.Rows L2
def spLaw (K : PySem.W.Frag) : Sp := fun vs H Q _ => ∃ (a : Addr) (ns : List Int), vs = [.ref a] ∧ SqL K H a (ns.map V.int) ∧ ns.length ≤ 63 ∧ ∀ H', Q (.bl true) H'
abbrev LN : List Str := ["script", "tape", "kind", "order", "counter", "parts", "fields", "change", "menu", "odd", "passed", "told", "made"]
/-- the parts and the fields as they stand -/
structure PF (K : PySem.W.Frag) (H : Hp) (pa fa : Addr) (xs ys : List V) (ds fs : List PyData) : Prop where
  hp : H pa = some (.lst xs)
  hf : H fa = some (.lst ys)
  ne : pa ≠ fa
  l5 : ds.length = 5
  ly : ys.length ≤ 4
  dx : DpAll K H xs ds
  dy : DpAll K H ys fs
  sx : ∀ d ∈ ds, Sm d
  sy : ∀ d ∈ fs, Sm d
theorem PF.same {K : PySem.W.Frag} {H H' : Hp} {pa fa : Addr} {xs ys : List V} {ds fs : List PyData} (h : PF K H pa fa xs ys ds fs) (s : Same H H') : PF K H' pa fa xs ys ds fs :=
  ⟨s _ _ h.hp, s _ _ h.hf, h.ne, h.l5, h.ly, dpAll_same s _ _ h.dx, dpAll_same s _ _ h.dy, h.sx, h.sy⟩
theorem dpAll_set {K : PySem.W.Frag} {H : Hp} : ∀ {xs : List V} {ds : List PyData} {v : V} {d : PyData} (j : Nat), DpAll K H xs ds → Dp K H v d → DpAll K H (xs.set j v) (ds.set j d)
  | _, _, _, _, _, .nil, _ => .nil
  | _, _, _, _, 0, .cons a b, h => .cons h b
  | _, _, _, _, j + 1, .cons a b, h => .cons a (dpAll_set j b h)
theorem sm_set {ds : List PyData} {d : PyData} {j : Nat} (h : ∀ e ∈ ds, Sm e) (hd : Sm d) : ∀ e ∈ ds.set j d, Sm e := fun e he => by
  rcases List.mem_or_eq_of_mem_set he with h' | h'
  · exact h e h'
  · rw [h']; exact hd
/-- a part is set -/
theorem PF.setP {K : PySem.W.Frag} {H : Hp} {pa fa : Addr} {xs ys : List V} {ds fs : List PyData} {v : V} {d : PyData} (j : Nat) (h : PF K H pa fa xs ys ds fs) (hv : Dp K H v d) (hd : Sm d) : PF K (upd H pa (.lst (xs.set j v))) pa fa (xs.set j v) ys (ds.set j d) fs :=
  ⟨upd_same, by rw [upd_ne h.ne.symm]; exact h.hf, h.ne, by rw [List.length_set]; exact h.l5, h.ly, dpAll_set j (dpAll_upd h.hp _ _ (noL_all h.sx) h.dx) (dp_upd h.hp _ _ hd.2.2 hv), dpAll_upd h.hp _ _ (noL_all h.sy) h.dy, sm_set h.sx hd, h.sy⟩
theorem PF.setF {K : PySem.W.Frag} {H : Hp} {pa fa : Addr} {xs ys : List V} {ds fs : List PyData} {v : V} {d : PyData} (j : Nat) (h : PF K H pa fa xs ys ds fs) (hv : Dp K H v d) (hd : Sm d) : PF K (upd H fa (.lst (ys.set j v))) pa fa xs (ys.set j v) ds (fs.set j d) :=
  ⟨by rw [upd_ne h.ne]; exact h.hp, upd_same, h.ne, h.l5, by rw [List.length_set]; exact h.ly, dpAll_upd h.hf _ _ (noL_all h.sx) h.dx, dpAll_set j (dpAll_upd h.hf _ _ (noL_all h.sy) h.dy) (dp_upd h.hf _ _ hd.2.2 hv), h.sx, sm_set h.sy hd⟩
theorem menu_at {K : PySem.W.Frag} {H : Hp} {t1 t2 : Addr} {o : Int} (h1 : H t1 = some (.tup [.int 1, .int 0, .non])) (h2 : H t2 = some (.tup [.int 0, .int 1, .non])) : ∀ j, j < 16 → ∃ v d, ([.int 0, .int (-1), .int 4, .int 64, .bl true, .non, .str "x", .str "none", .int o, .int (o + 1), .int 1000000000000000000000000000000, .int 1, .int 9, .int 65, .ref t1, .ref t2] : List V)[j]? = some v ∧ Dp K H v d ∧ Sm d := by
  have st : ∀ {x : Str}, (PyData.str x).canLay0 = true → Sm (.str x) := fun h => ⟨h, by simp [PyData.depth], by simp [noL]⟩
  have tp : ∀ {i j : Int}, Sm (.tuple [.int i, .int j, .none]) := ⟨by simp [PyData.canLay0, PyData.canLayAll0], by simp [PyData.depth, PyData.depthAll], by simp [noL, noLAll]⟩
  intro j hj
  match j, hj with
  | 0, _ => exact ⟨_, _, rfl, .int _, sm_int⟩
  | 1, _ => exact ⟨_, _, rfl, .int _, sm_int⟩
  | 2, _ => exact ⟨_, _, rfl, .int _, sm_int⟩
  | 3, _ => exact ⟨_, _, rfl, .int _, sm_int⟩
  | 4, _ => exact ⟨_, _, rfl, .bl _, sm_bl⟩
  | 5, _ => exact ⟨_, _, rfl, .non, sm_non⟩
  | 6, _ => exact ⟨_, _, rfl, .str _, st (by simp only [PyData.canLay0]; decide +kernel)⟩
  | 7, _ => exact ⟨_, _, rfl, .str _, st (by simp only [PyData.canLay0]; decide +kernel)⟩
  | 8, _ => exact ⟨_, _, rfl, .int _, sm_int⟩
  | 9, _ => exact ⟨_, _, rfl, .int _, sm_int⟩
  | 10, _ => exact ⟨_, _, rfl, .int _, sm_int⟩
  | 11, _ => exact ⟨_, _, rfl, .int _, sm_int⟩
  | 12, _ => exact ⟨_, _, rfl, .int _, sm_int⟩
  | 13, _ => exact ⟨_, _, rfl, .int _, sm_int⟩
  | 14, _ => exact ⟨_, _, rfl, .tup (SqT.of h1) (.cons (.int _) (.cons (.int _) (.cons .non .nil))), tp⟩
  | 15, _ => exact ⟨_, _, rfl, .tup (SqT.of h2) (.cons (.int _) (.cons (.int _) (.cons .non .nil))), tp⟩
  | n + 16, h => omega
theorem kind_sm {k : Str} (h : strIn k kindsL = true) : Sm (.str k) := by
  have : ∀ y ∈ kindsL, PyData.strOk y = true := by decide +kernel
  unfold strIn at h
  rw [List.any_eq_true] at h
  obtain ⟨y, hy, e⟩ := h
  obtain rfl : y = k := of_decide_eq_true e
  exact ⟨by simpa [PyData.canLay0] using this y hy, by simp [PyData.depth], by simp [noL]⟩
theorem dpAll_app {K : PySem.W.Frag} {H : Hp} : ∀ {xs ys : List V} {ds es : List PyData}, DpAll K H xs ds → DpAll K H ys es → DpAll K H (xs ++ ys) (ds ++ es)
  | _, _, _, _, .nil, h => h
  | _, _, _, _, .cons a b, h => .cons a (dpAll_app b h)
theorem dpAll_take {K : PySem.W.Frag} {H : Hp} : ∀ (n : Nat) {xs : List V} {ds : List PyData}, DpAll K H xs ds → DpAll K H (xs.take n) (ds.take n)
  | 0, _, _, _ => by rw [List.take_zero, List.take_zero]; exact .nil
  | _ + 1, _, _, .nil => .nil
  | n + 1, _, _, .cons a b => .cons a (dpAll_take n b)
theorem dpAll_drop {K : PySem.W.Frag} {H : Hp} : ∀ (n : Nat) {xs : List V} {ds : List PyData}, DpAll K H xs ds → DpAll K H (xs.drop n) (ds.drop n)
  | 0, _, _, h => h
  | _ + 1, _, _, .nil => .nil
  | n + 1, _, _, .cons a b => dpAll_drop n b
theorem dpAll_cut {K : PySem.W.Frag} {H : Hp} {xs : List V} {ds : List PyData} (lo hi : Option Int) (h : DpAll K H xs ds) : ∃ es, DpAll K H (cutV xs lo hi) es ∧ ∀ e ∈ es, e ∈ ds := by
  refine ⟨_, dpAll_take _ (dpAll_drop _ h), fun e he => ?_⟩
  exact List.mem_of_mem_drop (List.mem_of_mem_take he)
abbrev odd7 : List Str := ["mark", "make", "write", "drop", "preempt", "other", "snap"]
theorem odd_sm {k : Str} (h : k ∈ odd7) : Sm (.str k) := by
  have : ∀ y ∈ odd7, PyData.strOk y = true := by decide +kernel
  exact ⟨by simpa [PyData.canLay0] using this k h, by simp [PyData.depth], by simp [noL]⟩
theorem sm_lay : ∀ {fs : List PyData}, (∀ d ∈ fs, Sm d) → PyData.canLayAll0 fs = true ∧ PyData.depthAll fs ≤ 3
  | [], _ => ⟨by simp [PyData.canLayAll0], by simp [PyData.depthAll]⟩
  | d :: ds, h => by
    obtain ⟨a, b⟩ := sm_lay (fs := ds) fun e he => h e (List.mem_cons_of_mem _ he)
    have hd := h d List.mem_cons_self
    refine ⟨by simp only [PyData.canLayAll0, Bool.and_eq_true]; exact ⟨hd.1, a⟩, ?_⟩
    have := hd.2.1
    simp only [PyData.depthAll]; omega
theorem sh_lst {fs : List PyData} (h : ∀ d ∈ fs, Sm d) : SeqAt.shaped (.list fs) = true := by
  obtain ⟨a, b⟩ := sm_lay h
  exact shaped_of (by simpa [PyData.canLay0] using a) (by simp only [PyData.depth]; omega)
theorem sh_tup {fs : List PyData} (h : ∀ d ∈ fs, Sm d) : SeqAt.shaped (.tuple fs) = true := by
  obtain ⟨a, b⟩ := sm_lay h
  exact shaped_of (by simpa [PyData.canLay0] using a) (by simp only [PyData.depth]; omega)
theorem sh_answ {k : Str} {o : Int} : SeqAt.shaped (answD k o) = true := by
  have hok : PyData.strOk "ok" = true := by decide +kernel
  unfold answD
  split
  · exact shaped_of (by simp [PyData.canLay0]) (by simp [PyData.depth])
  · split
    · exact shaped_of (by simp [PyData.canLay0, PyData.canLayAll0, hok]) (by simp [PyData.depth, PyData.depthAll])
    · exact shaped_of (by simp [PyData.canLay0, PyData.canLayAll0, hok]) (by simp [PyData.depth, PyData.depthAll])
theorem rec_head {d1 d2 d3 d4 d5 : PyData} {fs : List PyData} (h : recD (.tuple (d1 :: d2 :: d3 :: d4 :: d5 :: fs)) = true) : ∃ o k, d1 = .int o ∧ d2 = .str k := by
  cases d1 with
  | int o =>
    cases d2 with
    | str k => exact ⟨o, k, rfl, rfl⟩
    | _ => exact absurd h (by simp [recD])
  | _ => cases d2 <;> exact absurd h (by simp [recD])
section
variable {P : Program} {wrl : World} {K : PySem.W.Frag} {mg : Str → Option Value} {base : Heap} {f fW fT fA fTb fFi fTo fV fR fFo fAo fAn aK aF CN CS : Addr} {fd fdW fdT fdA fdTb fdFi fdTo fdV fdR fdFo fdAo fdAn : FuncData}
theorem scLaw : FnScope LN ["script"] (defScope sLaw) := ⟨rfl, rfl, rfl, by decide +kernel, rfl, by decide +kernel, by decide +kernel⟩
theorem ok_law (F : Fun K "law" "law" sLaw f fd) (B : Bds mg fW) (BT : Blt mg) (R : RX K wrl mg aK aF)
    (GT : Def P wrl K mg base CX0 "_law_tape" 1 ["script"] (spTape K) fT fdT) (GA : Def P wrl K mg base CX0 "_law_at" 1 ["tape", "k"] (spAt K) fA fdA)
    (GTb : Def P wrl K mg base CX0 "_law_tables" 3 [] spTables fTb fdTb) (GFi : Def P wrl K mg base CX0 "_law_fields" 1 ["kind", "order", "number", "pick"] (spFields K) fFi fdFi)
    (GTo : Def P wrl K mg base CX0 "_law_told" 7 ["parts", "fields"] (spToldL K) fTo fdTo) (GV : Def P wrl K mg base CX0 "_law_valid" 4 VN (spValid K) fV fdV)
    (GR : Def P wrl K mg base CX0 "is_record" 5 ["value"] (spIsRec K) fR fdR) (GFo : Def P wrl K mg base CX0 "fields_of" 1 ["record"] (spFieldsOf K) fFo fdFo)
    (GAo : Def P wrl K mg base CX0 "answer_of" 1 ["record"] (spAnswerOf K) fAo fdAo) (GAn : Def P wrl K mg base CX0 "_law_answer" 1 ["order", "kind"] (spAnswer K) fAn fdAn) :
    FnOk P wrl K mg base CX0 8 f fd ["script"] (spLaw K) := by
  refine F.ok scLaw (fun vs H Q E h => ?_) (fun cdv A outer s H vs Q E hr h => ?_)
  · obtain ⟨a, ns, rfl, _⟩ := h
    rfl
  · obtain ⟨a, ns, rfl, hS, hlen, k⟩ := h
    have hr1 : Room 1 _ := hr.mono (by decide)
    have hr3 : Room 3 _ := hr.mono (by decide)
    have hr4 : Room 4 _ := hr.mono (by decide)
    have hr5 : Room 5 _ := hr.mono (by decide)
    refine ⟨_, pss_cons (ps_set (i := 1) scLaw.nd rfl (Or.inl rfl) (pe_call GT.ok hr1 (by rfl) GT.mg GT.kp GT.bd .nil pass0 (pa_cons (pv 0) pa_nil)))
      (pss_cons (ps_if (pt_not (pt_val (pe_call0 GTb.ok hr3 (by rfl) GTb.mg GTb.kp GTb.bd .nil pass0))) (pss_one (ps_ret pe_bl)) pss_nil)
      (pss_cons (ps_set (i := 2) scLaw.nd rfl (Or.inl rfl) (pe_ix ix_tup (pe_glob (v := .ref aK) (by rfl) R.gK rfl) (pe_op op_mod (pe_call GA.ok hr1 (by rfl) GA.mg GA.kp GA.bd .nil pass0 (pa_cons (pv 1) (pa_cons pe_int pa_nil))) pe_int) (fun _ _ => rfl)))
      (pss_cons (ps_set (i := 3) scLaw.nd rfl (Or.inl rfl) (pe_op op_add pe_int (pe_op op_mul (pe_call GA.ok hr1 (by rfl) GA.mg GA.kp GA.bd .nil pass0 (pa_cons (pv 1) (pa_cons pe_int pa_nil))) (pe_op op_add pe_int (pe_op op_mod (pe_call GA.ok hr1 (by rfl) GA.mg GA.kp GA.bd .nil pass0 (pa_cons (pv 1) (pa_cons pe_int pa_nil))) pe_int)))))
      (pss_cons (ps_set (i := 4) scLaw.nd rfl (Or.inl rfl) (pe_op op_mul (pe_callTy call_int1 (by rfl) BT.int (by decide +kernel) (pa_cons (pe_cmpR op_ne (pv 2) pe_str (nomark _)) pa_nil)) (pe_op op_add pe_int (pe_op op_mod (pe_call GA.ok hr1 (by rfl) GA.mg GA.kp GA.bd .nil pass0 (pa_cons (pv 1) (pa_cons pe_int pa_nil))) pe_int))))
      (pss_cons (ps_set (i := 5) scLaw.nd rfl (Or.inl rfl) (pe_lst (pa_cons (pv 3) (pa_cons (pv 2) (pa_cons (pe_op op_mod (pe_call GA.ok hr1 (by rfl) GA.mg GA.kp GA.bd .nil pass0 (pa_cons (pv 1) (pa_cons pe_int pa_nil))) pe_int) (pa_cons (pe_op op_add pe_int (pe_op op_mod (pe_call GA.ok hr1 (by rfl) GA.mg GA.kp GA.bd .nil pass0 (pa_cons (pv 1) (pa_cons pe_int pa_nil))) pe_int)) (pa_cons (pv 4) pa_nil)))))))
      (pss_cons (ps_set (i := 6) scLaw.nd rfl (Or.inl rfl) (pe_call GFi.ok hr1 (by rfl) GFi.mg GFi.kp GFi.bd .nil pass0 (pa_cons (pv 2) (pa_cons (pv 3) (pa_cons (pe_call GA.ok hr1 (by rfl) GA.mg GA.kp GA.bd .nil pass0 (pa_cons (pv 1) (pa_cons pe_int pa_nil))) (pa_cons (pe_call GA.ok hr1 (by rfl) GA.mg GA.kp GA.bd .nil pass0 (pa_cons (pv 1) (pa_cons pe_int pa_nil))) pa_nil))))))
      (pss_cons (ps_set (i := 7) scLaw.nd rfl (Or.inl rfl) (pe_call GA.ok hr1 (by rfl) GA.mg GA.kp GA.bd .nil pass0 (pa_cons (pv 1) (pa_cons pe_int pa_nil))))
      (pss_cons (ps_set (i := 8) scLaw.nd rfl (Or.inl rfl) (pe_lst (pa_cons pe_int (pa_cons (pe_un un_neg pe_int) (pa_cons pe_int (pa_cons pe_int (pa_cons pe_bl (pa_cons pe_non (pa_cons pe_str (pa_cons pe_str (pa_cons (pv 3) (pa_cons (pe_op op_add (pv 3) pe_int) (pa_cons (pe_op op_pow pe_int pe_int) (pa_cons pe_int (pa_cons pe_int (pa_cons pe_int
          (pa_cons (pe_tup (pa_cons pe_int (pa_cons pe_int (pa_cons pe_non pa_nil)))) (pa_cons (pe_tup (pa_cons pe_int (pa_cons pe_int (pa_cons pe_non pa_nil)))) pa_nil))))))))))))))))))
      (pss_cons (ps_set (i := 9) scLaw.nd rfl (Or.inl rfl) (pe_ix ix_list (pv 8) (pe_op op_mod (pe_op op_fdiv (pv 7) pe_int) pe_int) (fun _ _ => rfl)))
      (Evl.pss_cut (ps_if (PW.pt (pw_and (pt_cmpR op_lt (pe_op op_mod (pv 7) pe_int) pe_int (nomark _)) (pw_and1 (pt_cmpR op_ne (pe_op op_mod (pv 7) pe_int) pe_int (nomark _))))) (pss_one (ps_asg (pv 9) (pg_sub (pv 5) (pe_op op_mod (pv 7) pe_int) set_list)))
        (pss_one (ps_if (pt_cmpR op_eq (pe_op op_mod (pv 7) pe_int) pe_int (nomark _)) (pss_one (ps_asg (pe_ix ix_list (pe_lst (pa_cons pe_str (pa_cons pe_str (pa_cons pe_str (pa_cons pe_str (pa_cons pe_str (pa_cons pe_str (pa_cons pe_str pa_nil)))))))) (pe_op op_mod (pe_op op_fdiv (pv 7) pe_int) pe_int) (fun _ _ => rfl)) (pg_sub (pv 5) pe_int set_list)))
        (pss_one (ps_if (pt_cmpR op_eq (pe_op op_mod (pv 7) pe_int) pe_int (nomark _)) (pss_one (ps_set (i := 6) scLaw.nd rfl (Or.inl rfl) (pe_op op_cat (pv 6) (pe_lst (pa_cons (pv 9) pa_nil)))))
        (pss_one (ps_if (pt_cmpR op_eq (pe_op op_mod (pv 7) pe_int) pe_int (nomark _)) (pss_one (ps_set (i := 6) scLaw.nd rfl (Or.inl rfl) (pe_slice sl_list (pv 6) po_none (po_some (pe_un un_neg pe_int)))))
        (pss_one (ps_if (PW.pt (pw_and (pt_cmpR op_lt (pe_op op_mod (pv 7) pe_int) pe_int (nomark _)) (pw_and1 (pt_cmpR op_gt (pe_callB call_len_seq (by rfl) BT.len PySem.boot_len (pa_cons (pv 6) pa_nil)) pe_int (nomark _))))) (pss_one (ps_asg (pv 9) (pg_sub (pv 6) (pe_op op_mod (pe_op op_fdiv (pv 7) pe_int) (pe_callB call_len_seq (by rfl) BT.len PySem.boot_len (pa_cons (pv 6) pa_nil))) set_list))) pss_nil)))))))))
      (pss_cons (ps_set (i := 10) scLaw.nd rfl (Or.inl rfl) (pe_callTy call_list_of (by rfl) B.lst boot_list (pa_cons (pv 6) pa_nil)))
      (Evl.pss_cut (ps_set (i := 11) scLaw.nd rfl (Or.inl rfl) (pe_call GTo.ok hr (by rfl) GTo.mg GTo.kp GTo.bd .nil pass0 (pa_cons (pv 5) (pa_cons (pv 10) pa_nil))))
      (Evl.pss_cut (ps_set (i := 12) scLaw.nd rfl (Or.inl rfl) (pe_op op_catT (pe_tup (pa_cons (pe_ix ix_list (pv 5) pe_int (fun _ _ => rfl)) (pa_cons (pe_ix ix_list (pv 5) pe_int (fun _ _ => rfl)) (pa_cons (pe_ix ix_list (pv 5) pe_int (fun _ _ => rfl)) (pa_cons (pe_ix ix_list (pv 5) pe_int (fun _ _ => rfl)) (pa_cons (pe_ix ix_list (pv 5) pe_int (fun _ _ => rfl)) pa_nil)))))) (pe_callTy call_tuple_of (by rfl) B.tup boot_tuple (pa_cons (pv 6) pa_nil))))
      (pss_cons (ps_if (pt_cmpR (op_neD hr.units) (pv 10) (pv 6) (nomark _)) (pss_one (ps_ret pe_bl)) pss_nil)
      (pss_cons (ps_if (pt_not (pt_val (pe_call GV.ok hr4 (by rfl) GV.mg GV.kp GV.bd .nil pass0 (pa_cons (pe_ix ix_list (pv 5) pe_int (fun _ _ => rfl)) (pa_cons (pe_ix ix_list (pv 5) pe_int (fun _ _ => rfl)) (pa_cons (pe_ix ix_list (pv 5) pe_int (fun _ _ => rfl)) (pa_cons (pe_ix ix_list (pv 5) pe_int (fun _ _ => rfl)) (pa_cons (pe_ix ix_list (pv 5) pe_int (fun _ _ => rfl)) (pa_cons (pv 6) pa_nil)))))))))
          (pss_one (ps_ret (pe_and (pe_cmpR (op_eqD hr.units) (pv 11) (pe_lst (pa_cons pe_bl pa_nil)) (nomark _)) (pe_and (pe_cmpR op_isB (pe_call GR.ok hr5 (by rfl) GR.mg GR.kp GR.bd .nil pass0 (pa_cons (pv 12) pa_nil)) pe_bl (nomark _)) (pe_one (pe_cmpR op_isB (pe_call GR.ok hr5 (by rfl) GR.mg GR.kp GR.bd .nil pass0 (pa_cons (pv 6) pa_nil)) pe_bl (nomark _))))))) pss_nil)
      (pss_cons (ps_if (PW.pt (pw_or (pt_not (pt_val (pe_callB call_isi (by rfl) B.isi boot_isi (pa_cons (pv 11) (pa_cons (pe_bltn (v := .ty "tuple") (by rfl) B.tup boot_tuple rfl) pa_nil))))) (pw_or (pt_cmpR (op_neD hr.units) (pv 11) (pv 12) (nomark _)) (pw_or1 (pt_cmpR op_isNotB (pe_call GR.ok hr5 (by rfl) GR.mg GR.kp GR.bd .nil pass0 (pa_cons (pv 12) pa_nil)) pe_bl (nomark _)))))) (pss_one (ps_ret pe_bl)) pss_nil)
      (pss_one (ps_ret (pe_and (pe_cmpR (op_eqD hr.units) (pe_call GFo.ok hr1 (by rfl) GFo.mg GFo.kp GFo.bd .nil pass0 (pa_cons (pv 12) pa_nil)) (pe_callTy call_tuple_of (by rfl) B.tup boot_tuple (pa_cons (pv 6) pa_nil)) (nomark _))
          (pe_one (pe_cmpR (op_eqD hr.units) (pe_call GAo.ok hr1 (by rfl) GAo.mg GAo.kp GAo.bd .nil pass0 (pa_cons (pv 12) pa_nil)) (pe_call GAn.ok hr1 (by rfl) GAn.mg GAn.kp GAn.bd .nil pass0 (pa_cons (pe_ix ix_list (pv 5) pe_int (fun _ _ => rfl)) (pa_cons (pe_ix ix_list (pv 5) pe_int (fun _ _ => rfl)) pa_nil))) (nomark _)))))))))))))))))))))), ?_⟩
    -- tape = _law_tape(script)
    refine ⟨_, rfl, a, ns, rfl, hS, hlen, fun tp ts htp hts htl => ?_⟩
    have htape : (upd H tp (.lst (ts.map V.int))) tp = some (.lst (ts.map V.int)) := upd_same
    generalize upd H tp (.lst (ts.map V.int)) = H0 at htape
    refine ⟨rfl, fun H1 s1 => ⟨_, rfl, iteF ?_⟩⟩
    have htp1 := s1 _ _ htape
    have hS1 := SqL.of (K := K) htp1
    -- kind
    obtain ⟨kv, hkv, jk, hjk, hjkv, _⟩ := at_pos (xs := kindsL.map V.str) (i := ts.getD 0 0) (n := 12) (by decide) rfl rfl
    obtain ⟨kd, hkd, rfl⟩ := map_get hjkv
    have hkin : strIn kd kindsL = true := by
      unfold strIn
      rw [List.any_eq_true]
      exact ⟨kd, List.mem_of_getElem? hkd, decide_eq_true rfl⟩
    refine ⟨_, rfl, tp, ts, 0, rfl, hS1, _, _, rfl, rfl, (by show (0 : Int) < 12; decide), aK, _, _, _, rfl, rfl, R.sK H1, hkv, ?_⟩
    -- order
    have b1 := hts.at 1
    have b9 := hts.at 9
    have b4 := hts.at 4
    refine ⟨_, rfl, tp, ts, 1, rfl, hS1, _, rfl, tp, ts, 9, rfl, hS1, _, _, rfl, rfl, (by show (0 : Int) < 3; decide), _, _, rfl, rfl, _, _, rfl, rfl, .inl ⟨by omega, by omega⟩, _, _, rfl, rfl, ?_⟩
    have ho : 1 ≤ 1 + ts.getD 1 0 * (1 + ts.getD 9 0 % 3) := by
      have := Int.mul_nonneg b1.1 (show 0 ≤ 1 + ts.getD 9 0 % 3 by omega)
      omega
    dsimp only
    generalize 1 + ts.getD 1 0 * (1 + ts.getD 9 0 % 3) = o at ho ⊢
    -- counter
    refine ⟨_, rfl, rfl, .inr ⟨_, rfl, _, rfl, tp, ts, 4, rfl, hS1, _, _, rfl, rfl, (by show (0 : Int) < 9; decide), _, _, rfl, rfl, _, _, rfl, rfl, .inl ⟨by split <;> decide, by split <;> decide⟩, ?_⟩⟩
    -- parts
    refine ⟨_, rfl, _, rfl, _, rfl, tp, ts, 2, rfl, hS1, _, _, rfl, rfl, (by show (0 : Int) < 4; decide), _, rfl, tp, ts, 3, rfl, hS1, _, _, rfl, rfl, (by show (0 : Int) < 9; decide), _, _, rfl, rfl, _, rfl, by show 5 ≤ sizeLine; decide, fun pa hpa => ?_⟩
    dsimp only
    generalize hco : (if (!decide (V.str kd = V.str "mark")) = true then (1 : Int) else 0) * (1 + ts.getD 4 0 % 9) = co
    have u5 := same_new (o := .lst [.int o, .str kd, .int (ts.getD 2 0 % 4), .int (1 + ts.getD 3 0 % 9), .int co]) hpa
    have hp5 : (upd H1 pa (.lst [.int o, .str kd, .int (ts.getD 2 0 % 4), .int (1 + ts.getD 3 0 % 9), .int co])) pa = some (.lst [.int o, .str kd, .int (ts.getD 2 0 % 4), .int (1 + ts.getD 3 0 % 9), .int co]) := upd_same
    generalize upd H1 pa (.lst [.int o, .str kd, .int (ts.getD 2 0 % 4), .int (1 + ts.getD 3 0 % 9), .int co]) = H2 at u5 hp5
    have htp2 := u5 _ _ htp1
    have hS2 := SqL.of (K := K) htp2
    have b5 := hts.at 5
    have b6 := hts.at 6
    have b7 := hts.at 7
    -- fields
    refine ⟨_, rfl, _, rfl, _, rfl, tp, ts, 5, rfl, hS2, _, rfl, tp, ts, 6, rfl, hS2, nil_ ⟨kd, o, _, _, rfl, ho, b5.1, b6.1, fun fa ys fs H3 hfa s3 hf dy sy l1 l3 => ?_⟩⟩
    have htp3 := s3 _ _ htp2
    have hS3 := SqL.of (K := K) htp3
    have P3 : PF K H3 pa fa [.int o, .str kd, .int (ts.getD 2 0 % 4), .int (1 + ts.getD 3 0 % 9), .int co] ys [.int o, .str kd, .int (ts.getD 2 0 % 4), .int (1 + ts.getD 3 0 % 9), .int co] fs := by
      refine ⟨s3 _ _ hp5, hf, ne_of_none hp5 hfa, rfl, by omega, .cons (.int _) (.cons (.str _) (.cons (.int _) (.cons (.int _) (.cons (.int _) .nil)))), dy, fun d hd => ?_, sy⟩
      simp only [List.mem_cons, List.not_mem_nil, or_false] at hd
      rcases hd with rfl | rfl | rfl | rfl | rfl
      · exact sm_int
      · exact kind_sm hkin
      · exact sm_int
      · exact sm_int
      · exact sm_int
    -- change, menu, odd
    refine ⟨_, rfl, tp, ts, 7, rfl, hS3, ?_⟩
    dsimp only
    generalize ts.getD 7 0 = ch at b7 ⊢
    refine ⟨_, rfl, _, rfl, _, rfl, _, _, rfl, rfl, _, _, rfl, rfl, ⟨by decide, by decide, by decide⟩, by show 3 ≤ sizeLine; decide, fun t1 ht1 => ⟨by show 3 ≤ sizeLine; decide, fun t2 ht2 => ⟨by show 16 ≤ sizeLine; decide, fun ml hml => ?_⟩⟩⟩
    have v1 := same_new (o := .tup [.int 1, .int 0, .non]) ht1
    have v2 := same_new (o := .tup [.int 0, .int 1, .non]) ht2
    have v3 := same_new (o := .lst [.int 0, .int (-1), .int 4, .int 64, .bl true, .non, .str "x", .str "none", .int o, .int (o + 1), .int 1000000000000000000000000000000, .int 1, .int 9, .int 65, .ref t1, .ref t2]) hml
    obtain ⟨odd, dodd, hodd, hdo, hsm⟩ := menu_at (K := K) (o := o) (v3 _ _ (v2 _ _ (upd_same (H := H3) (a := t1) (o := .tup [.int 1, .int 0, .non])))) (v3 _ _ (upd_same (H := upd H3 t1 (.tup [.int 1, .int 0, .non])) (a := t2) (o := .tup [.int 0, .int 1, .non]))) (ch / 20 % 16).toNat (by omega)
    refine ⟨_, rfl, _, rfl, _, _, rfl, rfl, ⟨by decide, by decide⟩, _, _, rfl, rfl, (by show (0 : Int) < 16; decide), ml, _, _, odd, rfl, rfl, SqL.of upd_same, at_of (show ch / 20 % 16 = (((ch / 20 % 16).toNat : Nat) : Int) by omega) hodd, ?_⟩
    have P4 := ((P3.same v1).same v2).same v3
    have e30 : (10 : Int) ^ Int.toNat 30 = 1000000000000000000000000000000 := by decide
    dsimp only
    rw [e30]
    generalize upd (upd (upd H3 t1 (.tup [.int 1, .int 0, .non])) t2 (.tup [.int 0, .int 1, .non])) ml (.lst [.int 0, .int (-1), .int 4, .int 64, .bl true, .non, .str "x", .str "none", .int o, .int (o + 1), .int 1000000000000000000000000000000, .int 1, .int 9, .int 65, .ref t1, .ref t2]) = H4 at P4 hdo ⊢
    clear P3 v1 v2 v3 hml ht1 ht2
    refine ⟨fun σ' H' => ∃ fa xs ys ds fs, σ' = [some (.ref a), some (.ref tp), some (.str kd), some (.int o), some (.int co), some (.ref pa), some (.ref fa), some (.int ch), some (.ref ml), some odd, none, none, none] ∧ PF K H' pa fa xs ys ds fs, ?_, ?_⟩
    · refine ⟨_, rfl, _, _, rfl, rfl, (by show (0 : Int) < 20; decide), _, _, rfl, rfl, _, rfl, ?_⟩
      refine ite2 (fun c1 => ?_) (fun _ => ?_)
      · refine ⟨_, rfl, _, _, rfl, rfl, (by show (0 : Int) < 20; decide), rfl, _, rfl, ?_⟩
        refine ite2 (fun _ => ?_) (fun _ => ?_)
        · have c1' : ch % 20 < 5 := of_decide_eq_true c1
          have m1 := Int.emod_nonneg ch (show (20 : Int) ≠ 0 by decide)
          refine ⟨_, rfl, _, rfl, _, rfl, _, _, rfl, rfl, (by show (0 : Int) < 20; decide), pa, _, _, (ch % 20).toNat, rfl, rfl, P4.hp, ?_, ?_⟩
          · have := Evl.ixN_nat (n := 5) (j := (ch % 20).toNat) (by omega)
            rwa [show (((ch % 20).toNat : Nat) : Int) = ch % 20 by omega] at this
          · exact ⟨fa, _, ys, _, fs, rfl, P4.setP _ hdo hsm⟩
        refine ⟨_, rfl, _, _, rfl, rfl, (by show (0 : Int) < 20; decide), rfl, _, rfl, ?_⟩
        refine ite2 (fun _ => ?_) (fun _ => ?_)
        · refine ⟨by show 7 ≤ sizeLine; decide, fun kl hkl => ?_⟩
          have s5 := same_new (o := .lst [.str "mark", .str "make", .str "write", .str "drop", .str "preempt", .str "other", .str "snap"]) hkl
          obtain ⟨v, hv, j, hj, hjv, _⟩ := at_pos (xs := odd7.map V.str) (i := ch / 20) (n := 7) (by decide) rfl rfl
          obtain ⟨z, hz, rfl⟩ := map_get hjv
          have P5 := P4.same s5
          refine ⟨_, rfl, _, _, rfl, rfl, ⟨by decide, by decide⟩, _, _, rfl, rfl, (by show (0 : Int) < 7; decide), kl, _, _, _, rfl, rfl, SqL.of upd_same, hv, _, rfl, pa, _, _, 1, rfl, rfl, P5.hp, Evl.ixN_nat (j := 1) (show (1 : Nat) < 5 by decide), ?_⟩
          exact ⟨fa, _, ys, _, fs, rfl, P5.setP 1 (.str _) (odd_sm (List.mem_of_getElem? hz))⟩
        refine ⟨_, rfl, _, _, rfl, rfl, (by show (0 : Int) < 20; decide), rfl, _, rfl, ?_⟩
        refine ite2 (fun _ => ?_) (fun _ => ?_)
        · refine ⟨_, rfl, _, rfl, by show 1 ≤ sizeLine; decide, fun l hl => ?_⟩
          have s5 := same_new (o := .lst [odd]) hl
          have P5 := P4.same s5
          refine ⟨fa, l, _, _, rfl, rfl, P5.hf, upd_same, ?_, fun l2 hl2 => ?_⟩
          · exact Nat.le_of_lt (small1000 (by simp only [List.length_cons, List.length_nil]; omega))
          have s6 := same_new (o := .lst (ys ++ [odd])) hl2
          have P6 := P5.same s6
          exact ⟨l2, _, _, _, _, rfl, ⟨P6.hp, upd_same, ne_of_none P5.hp hl2, P6.l5, by rw [List.length_append]; simp only [List.length_cons, List.length_nil]; omega, P6.dx, dpAll_app P6.dy (.cons (dp_same (s5.trans s6) _ _ hdo) .nil), P6.sx, fun d hd => (List.mem_append.mp hd).elim (P6.sy d) (fun h => by rw [List.mem_singleton.mp h]; exact hsm)⟩⟩
        refine ⟨_, rfl, _, _, rfl, rfl, (by show (0 : Int) < 20; decide), rfl, _, rfl, ?_⟩
        refine ite2 (fun _ => ?_) (fun _ => ?_)
        · refine ⟨_, rfl, _, rfl, -1, rfl, fa, _, rfl, SqL.of P4.hf, fun l hl => ?_⟩
          have s5 := same_new (o := .lst (cutV ys Option.none (some (-1)))) hl
          have P5 := P4.same s5
          obtain ⟨es, he1, he2⟩ := dpAll_cut Option.none (some (-1)) P5.dy
          exact ⟨l, _, _, _, es, rfl, ⟨P5.hp, upd_same, ne_of_none P4.hp hl, P5.l5, Nat.le_trans (cutV_length _ _ _) P5.ly, P5.dx, he1, P5.sx, fun d hd => P5.sy d (he2 d hd)⟩⟩
        refine ⟨_, rfl, _, _, rfl, rfl, (by show (0 : Int) < 20; decide), _, _, rfl, rfl, _, rfl, ?_⟩
        refine ite2 (fun _ => ?_) (fun _ => ?_)
        · refine ⟨_, rfl, fa, _, rfl, .inl (SqL.of P4.hf), _, _, rfl, rfl, _, rfl, ?_⟩
          refine ite2 (fun hc => ?_) (fun _ => ?_)
          · have hpos : 0 < (ys.length : Int) := of_decide_eq_true hc
            have m1 := Int.emod_nonneg (ch / 10) (show (ys.length : Int) ≠ 0 by omega)
            have m2 := Int.emod_lt_of_pos (ch / 10) hpos
            refine ⟨_, rfl, _, rfl, _, rfl, _, _, rfl, rfl, ⟨by decide, by decide⟩, _, rfl, fa, _, rfl, .inl (SqL.of P4.hf), _, _, rfl, rfl, hpos, fa, _, _, (ch / 10 % (ys.length : Int)).toNat, rfl, rfl, P4.hf, ?_, ?_⟩
            · have := Evl.ixN_nat (n := ys.length) (j := (ch / 10 % (ys.length : Int)).toNat) (by omega)
              rwa [show (((ch / 10 % (ys.length : Int)).toNat : Nat) : Int) = ch / 10 % (ys.length : Int) by omega] at this
            · exact ⟨fa, _, _, _, _, rfl, P4.setF _ hdo hsm⟩
          · exact ⟨fa, _, _, _, _, rfl, P4⟩
        · exact iteF ⟨fa, _, _, _, _, rfl, P4⟩
      refine iteF ?_
      refine ⟨_, rfl, _, _, rfl, rfl, (by show (0 : Int) < 20; decide), rfl, _, rfl, ?_⟩
      refine ite2 (fun _ => ?_) (fun _ => ?_)
      · refine ⟨by show 7 ≤ sizeLine; decide, fun kl hkl => ?_⟩
        have s5 := same_new (o := .lst [.str "mark", .str "make", .str "write", .str "drop", .str "preempt", .str "other", .str "snap"]) hkl
        obtain ⟨v, hv, j, hj, hjv, _⟩ := at_pos (xs := odd7.map V.str) (i := ch / 20) (n := 7) (by decide) rfl rfl
        obtain ⟨z, hz, rfl⟩ := map_get hjv
        have P5 := P4.same s5
        refine ⟨_, rfl, _, _, rfl, rfl, ⟨by decide, by decide⟩, _, _, rfl, rfl, (by show (0 : Int) < 7; decide), kl, _, _, _, rfl, rfl, SqL.of upd_same, hv, _, rfl, pa, _, _, 1, rfl, rfl, P5.hp, Evl.ixN_nat (j := 1) (show (1 : Nat) < 5 by decide), ?_⟩
        exact ⟨fa, _, ys, _, fs, rfl, P5.setP 1 (.str _) (odd_sm (List.mem_of_getElem? hz))⟩
      refine ⟨_, rfl, _, _, rfl, rfl, (by show (0 : Int) < 20; decide), rfl, _, rfl, ?_⟩
      refine ite2 (fun _ => ?_) (fun _ => ?_)
      · refine ⟨_, rfl, _, rfl, by show 1 ≤ sizeLine; decide, fun l hl => ?_⟩
        have s5 := same_new (o := .lst [odd]) hl
        have P5 := P4.same s5
        refine ⟨fa, l, _, _, rfl, rfl, P5.hf, upd_same, ?_, fun l2 hl2 => ?_⟩
        · exact Nat.le_of_lt (small1000 (by simp only [List.length_cons, List.length_nil]; omega))
        have s6 := same_new (o := .lst (ys ++ [odd])) hl2
        have P6 := P5.same s6
        exact ⟨l2, _, _, _, _, rfl, ⟨P6.hp, upd_same, ne_of_none P5.hp hl2, P6.l5, by rw [List.length_append]; simp only [List.length_cons, List.length_nil]; omega, P6.dx, dpAll_app P6.dy (.cons (dp_same (s5.trans s6) _ _ hdo) .nil), P6.sx, fun d hd => (List.mem_append.mp hd).elim (P6.sy d) (fun h => by rw [List.mem_singleton.mp h]; exact hsm)⟩⟩
      refine ⟨_, rfl, _, _, rfl, rfl, (by show (0 : Int) < 20; decide), rfl, _, rfl, ?_⟩
      refine ite2 (fun _ => ?_) (fun _ => ?_)
      · refine ⟨_, rfl, _, rfl, -1, rfl, fa, _, rfl, SqL.of P4.hf, fun l hl => ?_⟩
        have s5 := same_new (o := .lst (cutV ys Option.none (some (-1)))) hl
        have P5 := P4.same s5
        obtain ⟨es, he1, he2⟩ := dpAll_cut Option.none (some (-1)) P5.dy
        exact ⟨l, _, _, _, es, rfl, ⟨P5.hp, upd_same, ne_of_none P4.hp hl, P5.l5, Nat.le_trans (cutV_length _ _ _) P5.ly, P5.dx, he1, P5.sx, fun d hd => P5.sy d (he2 d hd)⟩⟩
      refine ⟨_, rfl, _, _, rfl, rfl, (by show (0 : Int) < 20; decide), _, _, rfl, rfl, _, rfl, ?_⟩
      refine ite2 (fun _ => ?_) (fun _ => ?_)
      · refine ⟨_, rfl, fa, _, rfl, .inl (SqL.of P4.hf), _, _, rfl, rfl, _, rfl, ?_⟩
        refine ite2 (fun hc => ?_) (fun _ => ?_)
        · have hpos : 0 < (ys.length : Int) := of_decide_eq_true hc
          have m1 := Int.emod_nonneg (ch / 10) (show (ys.length : Int) ≠ 0 by omega)
          have m2 := Int.emod_lt_of_pos (ch / 10) hpos
          refine ⟨_, rfl, _, rfl, _, rfl, _, _, rfl, rfl, ⟨by decide, by decide⟩, _, rfl, fa, _, rfl, .inl (SqL.of P4.hf), _, _, rfl, rfl, hpos, fa, _, _, (ch / 10 % (ys.length : Int)).toNat, rfl, rfl, P4.hf, ?_, ?_⟩
          · have := Evl.ixN_nat (n := ys.length) (j := (ch / 10 % (ys.length : Int)).toNat) (by omega)
            rwa [show (((ch / 10 % (ys.length : Int)).toNat : Nat) : Int) = ch / 10 % (ys.length : Int) by omega] at this
          · exact ⟨fa, _, _, _, _, rfl, P4.setF _ hdo hsm⟩
        · exact ⟨fa, _, _, _, _, rfl, P4⟩
      · exact iteF ⟨fa, _, _, _, _, rfl, P4⟩
    rintro σ' H5 ⟨fa, xs, ys, ds, fs, rfl, P5⟩
    obtain ⟨x1, x2, x3, x4, x5, r, d1, d2, d3, d4, d5, g, rfl, rfl, e1, e2, e3, e4, e5, e6⟩ := dpAll_5 P5.dx (by have := P5.l5; omega)
    have hg : g = [] := by
      have := P5.l5
      simp only [List.length_cons] at this
      exact List.length_eq_zero_iff.mp (by omega)
    subst hg
    obtain rfl := dpAll_nil e6
    -- passed
    refine ⟨_, rfl, fa, ys, rfl, .inl (SqL.of P5.hf), fun ql hql => ?_⟩
    have s6 := same_new (o := .lst ys) hql
    have P6 := P5.same s6
    have hq6 : (upd H5 ql (.lst ys)) ql = some (.lst ys) := upd_same
    have E1 := dp_same s6 _ _ e1
    have E2 := dp_same s6 _ _ e2
    have E3 := dp_same s6 _ _ e3
    have E4 := dp_same s6 _ _ e4
    have E5 := dp_same s6 _ _ e5
    generalize upd H5 ql (.lst ys) = H6 at P6 hq6 E1 E2 E3 E4 E5
    -- told
    refine ⟨fun σ' H' => ∃ tv : Addr, σ' = [some (.ref a), some (.ref tp), some (.str kd), some (.int o), some (.int co), some (.ref pa), some (.ref fa), some (.int ch), some (.ref ml), some odd, some (.ref ql), some (.ref tv), none] ∧ Same H6 H' ∧
      ((recD (.tuple (d1 :: d2 :: d3 :: d4 :: d5 :: fs)) = false ∧ H' tv = some (.lst [.bl true])) ∨ (recD (.tuple (d1 :: d2 :: d3 :: d4 :: d5 :: fs)) = true ∧ H' tv = some (.tup (x1 :: x2 :: x3 :: x4 :: x5 :: ys)))), ?_, ?_⟩
    · refine ⟨_, rfl, _, rfl, pa, ql, x1, x2, x3, x4, x5, ys, d1, d2, d3, d4, d5, fs, rfl, P6.hp, hq6, by have := P6.ly; omega, E1, E2, E3, E4, E5, P6.dy, fun hb l H' s' hl => ?_, fun hb t H' s' ht => ?_⟩
      · exact ⟨l, rfl, s', .inl ⟨hb, hl⟩⟩
      · exact ⟨t, rfl, s', .inr ⟨hb, ht⟩⟩
    rintro σ' H7 ⟨tv, rfl, s7, htv⟩
    have P7 := P6.same s7
    have hs7 := SqL.of (K := K) P7.hp
    -- made
    refine ⟨fun σ' H' => ∃ mp : Addr, σ' = [some (.ref a), some (.ref tp), some (.str kd), some (.int o), some (.int co), some (.ref pa), some (.ref fa), some (.int ch), some (.ref ml), some odd, some (.ref ql), some (.ref tv), some (.ref mp)] ∧ Same H7 H' ∧ H' mp = some (.tup (x1 :: x2 :: x3 :: x4 :: x5 :: ys)), ?_, ?_⟩
    · refine ⟨_, rfl, pa, _, _, _, rfl, rfl, hs7, atI_nat (j := 0) rfl, _, rfl, pa, _, _, _, rfl, rfl, hs7, atI_nat (j := 1) rfl, _, rfl, pa, _, _, _, rfl, rfl, hs7, atI_nat (j := 2) rfl, _, rfl, pa, _, _, _, rfl, rfl, hs7, atI_nat (j := 3) rfl, _, rfl, pa, _, _, _, rfl, rfl, hs7, atI_nat (j := 4) rfl, by show 5 ≤ sizeLine; decide, fun t5 ht5 => ?_⟩
      have v1 := same_new (o := .tup [x1, x2, x3, x4, x5]) ht5
      refine ⟨_, rfl, fa, ys, rfl, .inl ⟨SqL.of (v1 _ _ P7.hf), fun tq htq => ?_⟩⟩
      have v2 := same_new (o := .tup ys) htq
      refine ⟨t5, tq, [x1, x2, x3, x4, x5], ys, rfl, rfl, SqT.of (v2 _ _ upd_same), SqT.of upd_same, by simp, ?_, fun hy => ?_, fun hy p hp => ?_⟩
      · exact Nat.le_of_lt (small1000 (by have := P7.ly; simp only [List.length_cons, List.length_nil]; omega))
      · exact ⟨t5, rfl, v1.trans v2, by have h := v2 t5 _ upd_same; rw [h, hy]⟩
      · exact ⟨p, rfl, v1.trans (v2.trans (same_new hp)), upd_same⟩
    rintro σ' H8 ⟨mp, rfl, s8, hmp⟩
    have P8 := P7.same s8
    have s68 := s7.trans s8
    have hq8 := s68 _ _ hq6
    have hs8 := SqL.of (K := K) P8.hp
    have shF := sh_lst P8.sy
    -- passed != fields
    refine ⟨_, rfl, _, rfl, .list fs, .list fs, .lst (SqL.of hq8) P8.dy, .lst (SqL.of P8.hf) P8.dy, shF, shF, _, rfl, ?_⟩
    rw [SeqAt.eqv_refl _ (SeqAt.canLay_of_shaped shF)]
    refine iteF ?_
    -- valid
    have G1 := dp_same s68 _ _ E1
    have G2 := dp_same s68 _ _ E2
    have G3 := dp_same s68 _ _ E3
    have G4 := dp_same s68 _ _ E4
    have G5 := dp_same s68 _ _ E5
    have mdp : Dp K H8 (.ref mp) (.tuple (d1 :: d2 :: d3 :: d4 :: d5 :: fs)) := .tup (SqT.of hmp) (.cons G1 (.cons G2 (.cons G3 (.cons G4 (.cons G5 P8.dy)))))
    refine ⟨_, rfl, pa, _, _, _, rfl, rfl, hs8, atI_nat (j := 0) rfl, _, rfl, pa, _, _, _, rfl, rfl, hs8, atI_nat (j := 1) rfl, _, rfl, pa, _, _, _, rfl, rfl, hs8, atI_nat (j := 2) rfl, _, rfl, pa, _, _, _, rfl, rfl, hs8, atI_nat (j := 3) rfl, _, rfl, pa, _, _, _, rfl, rfl, hs8, atI_nat (j := 4) rfl, _, rfl, ?_⟩
    refine ⟨x1, x2, x3, x4, x5, fa, ys, d1, d2, d3, d4, d5, fs, rfl, P8.hf, G1, G2, G3, G4, G5, P8.dy, fun H9 s9 => ⟨_, rfl, ?_⟩⟩
    have P9 := P8.same s9
    rcases htv with ⟨hb, htv⟩ | ⟨hb, htv⟩
    · rw [hb]
      refine iteT ?_
      have sh1 : SeqAt.shaped (.list [.bool true]) = true := by decide +kernel
      refine ⟨_, rfl, by show 1 ≤ sizeLine; decide, fun l2 hl2 => ?_⟩
      have w1 := same_new (o := .lst [.bl true]) hl2
      refine ⟨.list [.bool true], .list [.bool true], .lst (SqL.of (w1 _ _ (s9 _ _ (s8 _ _ htv)))) (.cons (.bl _) .nil), .lst (SqL.of upd_same) (.cons (.bl _) .nil), sh1, sh1, _, rfl, ?_⟩
      rw [SeqAt.eqv_refl _ (SeqAt.canLay_of_shaped sh1)]
      refine iteT ⟨_, rfl, .ref mp, _, rfl, dp_same w1 _ _ (dp_same s9 _ _ mdp), fun H10 s10 => ⟨false, _, rfl, rfl, _, rfl, ?_⟩⟩
      rw [hb]
      refine iteT ⟨_, rfl, .ref fa, .list fs, rfl, .lst (SqL.of (s10 _ _ (w1 _ _ P9.hf))) (dpAll_same s10 _ _ (dpAll_same w1 _ _ P9.dy)), fun H11 s11 => ⟨false, _, rfl, rfl, ?_⟩⟩
      exact k H11
    · rw [hb]
      refine iteF ?_
      have mdp9 := dp_same s9 _ _ mdp
      have htv9 := s9 _ _ (s8 _ _ htv)
      have shM : SeqAt.shaped (.tuple (d1 :: d2 :: d3 :: d4 :: d5 :: fs)) = true := sh_tup fun d hd => by
        rcases List.mem_append.mp (show d ∈ [d1, d2, d3, d4, d5] ++ fs from hd) with h | h
        · exact P9.sx d h
        · exact P9.sy d h
      have tdp : Dp K H9 (.ref tv) (.tuple (d1 :: d2 :: d3 :: d4 :: d5 :: fs)) := .tup (SqT.of htv9) (.cons (dp_same s9 _ _ G1) (.cons (dp_same s9 _ _ G2) (.cons (dp_same s9 _ _ G3) (.cons (dp_same s9 _ _ G4) (.cons (dp_same s9 _ _ G5) P9.dy)))))
      refine ⟨_, rfl, .ref tv, _, .type "tuple", _, true, rfl, .ty "tuple", .base (.tup htv9), kit_ty (by decide +kernel), _, rfl, ?_⟩
      refine iteF ⟨_, rfl, _, rfl, _, _, tdp, mdp9, shM, shM, _, rfl, ?_⟩
      rw [SeqAt.eqv_refl _ (SeqAt.canLay_of_shaped shM)]
      refine iteF ⟨_, rfl, .ref mp, _, rfl, mdp9, fun H10 s10 => ⟨true, _, rfl, rfl, _, rfl, ?_⟩⟩
      rw [hb]
      refine iteF ?_
      obtain ⟨o', k', rfl, rfl⟩ := rec_head hb
      cases G1
      cases G2
      have hmp10 := s10 _ _ (s9 _ _ hmp)
      have P10 := P9.same s10
      -- fields_of(made) == tuple(fields)
      refine ⟨_, rfl, mp, _, _, _, _, _, ys, rfl, SqT.of hmp10, fun p H11 s11 hp => ?_⟩
      have P11 := P10.same s11
      have shT := sh_tup P11.sy
      refine ⟨_, rfl, fa, ys, rfl, .inl ⟨SqL.of P11.hf, fun tl htl => ?_⟩⟩
      have w2 := same_new (o := .tup ys) htl
      refine ⟨.tuple fs, .tuple fs, .tup (SqT_same w2 hp) (dpAll_same w2 _ _ P11.dy), .tup (SqT.of upd_same) (dpAll_same w2 _ _ P11.dy), shT, shT, _, rfl, ?_⟩
      rw [SeqAt.eqv_refl _ (SeqAt.canLay_of_shaped shT)]
      refine iteT ?_
      have P12 := P11.same w2
      -- answer_of(made) == _law_answer(parts[0], parts[1])
      refine ⟨_, rfl, mp, o', k', _, rfl, SqT.of (w2 _ _ (s11 _ _ hmp10)), fun v1 H13 s13 hv1 => ?_⟩
      have P13 := P12.same s13
      have hs13 := SqL.of (K := K) P13.hp
      refine ⟨_, rfl, pa, _, _, _, rfl, rfl, hs13, atI_nat (j := 0) rfl, _, rfl, pa, _, _, _, rfl, rfl, hs13, atI_nat (j := 1) rfl, o', k', rfl, fun v2 H14 s14 hv2 => ?_⟩
      refine ⟨_, _, dp_same s14 _ _ hv1, hv2, sh_answ, sh_answ, ?_⟩
      rw [SeqAt.eqv_refl _ (SeqAt.canLay_of_shaped sh_answ)]
      exact k H14
end
end Sg

set_option Elab.async false
set_option linter.all false
set_option maxRecDepth 100000
set_option maxHeartbeats 8000000
namespace Sg
open PySem PySem.Spec PyProof.Rows L2
theorem all_mk {l : PySem.W.OpenLaw} {w : World} {K : PySem.W.Frag} {h : Heap} {mg : Str → Option Value} {fa CN CS aK aF fW fAL fB fMr fIr fFc fFo fAo fIk fIc fIf fIt fT fA fFi fIn fWi fWo fTf fFt fVa fTo fAn fTb fL aT0 aT1 aT2 aT3 aT4 aT5 aT6 aT7 aT8 aT9 aT10 aT11 : Addr} (X : K.In h) (G : h.Ns mainGlobals mg) (hfa : mg "law" = some (.ref fa))
    {odW anW odAL anAL odB anB odMr anMr odIr anIr odFc anFc odFo anFo odAo anAo odIk anIk odIc anIc odIf anIf odIt anIt odT anT odA anA odFi anFi odIn anIn odWi anWi odWo anWo odTf anTf odFt anFt odVa anVa odTo anTo odAn anAn odTb anTb odL anL : Option Addr} {slW slAL slB slMr slIr slFc slFo slAo slIk slIc slIf slIt slT slA slFi slIn slWi slWo slTf slFt slVa slTo slAn slTb slL : Array (Option Value)} {ocW kVW dcW pmW cdW ctW ocAL kVAL dcAL pmAL cdAL ctAL ocB kVB dcB pmB cdB ctB ocMr kVMr dcMr pmMr cdMr ctMr ocIr kVIr dcIr pmIr cdIr ctIr ocFc kVFc dcFc pmFc cdFc ctFc ocFo kVFo dcFo pmFo cdFo ctFo ocAo kVAo dcAo pmAo cdAo ctAo ocIk kVIk dcIk pmIk cdIk ctIk ocIc kVIc dcIc pmIc cdIc ctIc ocIf kVIf dcIf pmIf cdIf ctIf ocIt kVIt dcIt pmIt cdIt ctIt ocT kVT dcT pmT cdT ctT ocA kVA dcA pmA cdA ctA ocFi kVFi dcFi pmFi cdFi ctFi ocIn kVIn dcIn pmIn cdIn ctIn ocWi kVWi dcWi pmWi cdWi ctWi ocWo kVWo dcWo pmWo cdWo ctWo ocTf kVTf dcTf pmTf cdTf ctTf ocFt kVFt dcFt pmFt cdFt ctFt ocVa kVVa dcVa pmVa cdVa ctVa ocTo kVTo dcTo pmTo cdTo ctTo ocAn kVAn dcAn pmAn cdAn ctAn ocTb kVTb dcTb pmTb cdTb ctTb ocL kVL dcL pmL cdL ctL : Value} {tHEAD tHOSTS tNAMESPACES tPLACES u0 u1 u2 u3 u4 u5 u6 u7 u8 u9 u10 u11 w0_0 w1_0 w1_1 w2_0 w3_0 w3_1 w3_2 w4_0 w4_1 w5_0 w6_0 w6_1 w7_0 w8_0 w8_1 w9_0 w9_1 w10_0 w11_0 w11_1 w11_2 : Tok} {nK nF nnT0 nnT1 nnT2 nnT3 nnT4 nnT5 nnT6 nnT7 nnT8 nnT9 nnT10 nnT11 : Nat} {slK slT0 slT1 slT2 slT3 slT4 slT5 slT6 slT7 slT8 slT9 slT10 slT11 : Array (Option Value)} {esF : Array DictEntry} {dT0 dT1 dT2 dT3 dT4 dT5 dT6 dT7 dT8 dT9 dT10 dT11 : Option Addr}
    (aN : PySem.W.nsIn K mainGlobals "NotValid" = some (some (.ref CN)))
    (aS : PySem.W.nsIn K mainGlobals "SpindleError" = some (some (.ref CS)))
    (aW : PySem.W.nsIn K mainGlobals "is_whole" = some (some (.ref fW)))
    (lW : K.lookup fW = some ⟨ocW, odW, .func (PySem.W.fnOf "is_whole" "is_whole" (defArgs sWhole) (defBody sWhole) (defScope sWhole) .none kVW dcW pmW anW cdW ctW), slW⟩)
    (cW : PySem.W.codeIn K cdW "is_whole" = true)
    (kW : PySem.W.keepIn K (.ref fW) = true)
    (aAL : PySem.W.nsIn K mainGlobals "is_at_least" = some (some (.ref fAL)))
    (lAL : K.lookup fAL = some ⟨ocAL, odAL, .func (PySem.W.fnOf "is_at_least" "is_at_least" (defArgs sAtLeast) (defBody sAtLeast) (defScope sAtLeast) .none kVAL dcAL pmAL anAL cdAL ctAL), slAL⟩)
    (cAL : PySem.W.codeIn K cdAL "is_at_least" = true)
    (kAL : PySem.W.keepIn K (.ref fAL) = true)
    (aB : PySem.W.nsIn K mainGlobals "is_between" = some (some (.ref fB)))
    (lB : K.lookup fB = some ⟨ocB, odB, .func (PySem.W.fnOf "is_between" "is_between" (defArgs sBetween) (defBody sBetween) (defScope sBetween) .none kVB dcB pmB anB cdB ctB), slB⟩)
    (cB : PySem.W.codeIn K cdB "is_between" = true)
    (kB : PySem.W.keepIn K (.ref fB) = true)
    (aMr : PySem.W.nsIn K mainGlobals "make_record" = some (some (.ref fMr)))
    (lMr : K.lookup fMr = some ⟨ocMr, odMr, .func (PySem.W.fnOf "make_record" "make_record" (defArgs sMake) (defBody sMake) (defScope sMake) .none kVMr dcMr pmMr anMr cdMr ctMr), slMr⟩)
    (cMr : PySem.W.codeIn K cdMr "make_record" = true)
    (kMr : PySem.W.keepIn K (.ref fMr) = true)
    (aIr : PySem.W.nsIn K mainGlobals "is_record" = some (some (.ref fIr)))
    (lIr : K.lookup fIr = some ⟨ocIr, odIr, .func (PySem.W.fnOf "is_record" "is_record" (defArgs sIsRec) (defBody sIsRec) (defScope sIsRec) .none kVIr dcIr pmIr anIr cdIr ctIr), slIr⟩)
    (cIr : PySem.W.codeIn K cdIr "is_record" = true)
    (kIr : PySem.W.keepIn K (.ref fIr) = true)
    (aFc : PySem.W.nsIn K mainGlobals "field_count" = some (some (.ref fFc)))
    (lFc : K.lookup fFc = some ⟨ocFc, odFc, .func (PySem.W.fnOf "field_count" "field_count" (defArgs sCount) (defBody sCount) (defScope sCount) .none kVFc dcFc pmFc anFc cdFc ctFc), slFc⟩)
    (cFc : PySem.W.codeIn K cdFc "field_count" = true)
    (kFc : PySem.W.keepIn K (.ref fFc) = true)
    (aFo : PySem.W.nsIn K mainGlobals "fields_of" = some (some (.ref fFo)))
    (lFo : K.lookup fFo = some ⟨ocFo, odFo, .func (PySem.W.fnOf "fields_of" "fields_of" (defArgs sFieldsOf) (defBody sFieldsOf) (defScope sFieldsOf) .none kVFo dcFo pmFo anFo cdFo ctFo), slFo⟩)
    (cFo : PySem.W.codeIn K cdFo "fields_of" = true)
    (kFo : PySem.W.keepIn K (.ref fFo) = true)
    (aAo : PySem.W.nsIn K mainGlobals "answer_of" = some (some (.ref fAo)))
    (lAo : K.lookup fAo = some ⟨ocAo, odAo, .func (PySem.W.fnOf "answer_of" "answer_of" (defArgs sAnswerOf) (defBody sAnswerOf) (defScope sAnswerOf) .none kVAo dcAo pmAo anAo cdAo ctAo), slAo⟩)
    (cAo : PySem.W.codeIn K cdAo "answer_of" = true)
    (kAo : PySem.W.keepIn K (.ref fAo) = true)
    (aIk : PySem.W.nsIn K mainGlobals "_is_kind" = some (some (.ref fIk)))
    (lIk : K.lookup fIk = some ⟨ocIk, odIk, .func (PySem.W.fnOf "_is_kind" "_is_kind" (defArgs sIsKind) (defBody sIsKind) (defScope sIsKind) .none kVIk dcIk pmIk anIk cdIk ctIk), slIk⟩)
    (cIk : PySem.W.codeIn K cdIk "_is_kind" = true)
    (kIk : PySem.W.keepIn K (.ref fIk) = true)
    (aIc : PySem.W.nsIn K mainGlobals "_is_counter" = some (some (.ref fIc)))
    (lIc : K.lookup fIc = some ⟨ocIc, odIc, .func (PySem.W.fnOf "_is_counter" "_is_counter" (defArgs sIsCounter) (defBody sIsCounter) (defScope sIsCounter) .none kVIc dcIc pmIc anIc cdIc ctIc), slIc⟩)
    (cIc : PySem.W.codeIn K cdIc "_is_counter" = true)
    (kIc : PySem.W.keepIn K (.ref fIc) = true)
    (aIf : PySem.W.nsIn K mainGlobals "_is_field" = some (some (.ref fIf)))
    (lIf : K.lookup fIf = some ⟨ocIf, odIf, .func (PySem.W.fnOf "_is_field" "_is_field" (defArgs sIsField) (defBody sIsField) (defScope sIsField) .none kVIf dcIf pmIf anIf cdIf ctIf), slIf⟩)
    (cIf : PySem.W.codeIn K cdIf "_is_field" = true)
    (kIf : PySem.W.keepIn K (.ref fIf) = true)
    (aIt : PySem.W.nsIn K mainGlobals "_is_told" = some (some (.ref fIt)))
    (lIt : K.lookup fIt = some ⟨ocIt, odIt, .func (PySem.W.fnOf "_is_told" "_is_told" (defArgs sIsTold) (defBody sIsTold) (defScope sIsTold) .none kVIt dcIt pmIt anIt cdIt ctIt), slIt⟩)
    (cIt : PySem.W.codeIn K cdIt "_is_told" = true)
    (kIt : PySem.W.keepIn K (.ref fIt) = true)
    (aT : PySem.W.nsIn K mainGlobals "_law_tape" = some (some (.ref fT)))
    (lT : K.lookup fT = some ⟨ocT, odT, .func (PySem.W.fnOf "_law_tape" "_law_tape" (defArgs sTape) (defBody sTape) (defScope sTape) .none kVT dcT pmT anT cdT ctT), slT⟩)
    (cT : PySem.W.codeIn K cdT "_law_tape" = true)
    (kT : PySem.W.keepIn K (.ref fT) = true)
    (aA : PySem.W.nsIn K mainGlobals "_law_at" = some (some (.ref fA)))
    (lA : K.lookup fA = some ⟨ocA, odA, .func (PySem.W.fnOf "_law_at" "_law_at" (defArgs sAt) (defBody sAt) (defScope sAt) .none kVA dcA pmA anA cdA ctA), slA⟩)
    (cA : PySem.W.codeIn K cdA "_law_at" = true)
    (kA : PySem.W.keepIn K (.ref fA) = true)
    (aFi : PySem.W.nsIn K mainGlobals "_law_fields" = some (some (.ref fFi)))
    (lFi : K.lookup fFi = some ⟨ocFi, odFi, .func (PySem.W.fnOf "_law_fields" "_law_fields" (defArgs sFields) (defBody sFields) (defScope sFields) .none kVFi dcFi pmFi anFi cdFi ctFi), slFi⟩)
    (cFi : PySem.W.codeIn K cdFi "_law_fields" = true)
    (kFi : PySem.W.keepIn K (.ref fFi) = true)
    (aIn : PySem.W.nsIn K mainGlobals "_law_integer" = some (some (.ref fIn)))
    (lIn : K.lookup fIn = some ⟨ocIn, odIn, .func (PySem.W.fnOf "_law_integer" "_law_integer" (defArgs sInteger) (defBody sInteger) (defScope sInteger) .none kVIn dcIn pmIn anIn cdIn ctIn), slIn⟩)
    (cIn : PySem.W.codeIn K cdIn "_law_integer" = true)
    (kIn : PySem.W.keepIn K (.ref fIn) = true)
    (aWi : PySem.W.nsIn K mainGlobals "_law_within" = some (some (.ref fWi)))
    (lWi : K.lookup fWi = some ⟨ocWi, odWi, .func (PySem.W.fnOf "_law_within" "_law_within" (defArgs sWithin) (defBody sWithin) (defScope sWithin) .none kVWi dcWi pmWi anWi cdWi ctWi), slWi⟩)
    (cWi : PySem.W.codeIn K cdWi "_law_within" = true)
    (kWi : PySem.W.keepIn K (.ref fWi) = true)
    (aWo : PySem.W.nsIn K mainGlobals "_law_word" = some (some (.ref fWo)))
    (lWo : K.lookup fWo = some ⟨ocWo, odWo, .func (PySem.W.fnOf "_law_word" "_law_word" (defArgs sWord) (defBody sWord) (defScope sWord) .none kVWo dcWo pmWo anWo cdWo ctWo), slWo⟩)
    (cWo : PySem.W.codeIn K cdWo "_law_word" = true)
    (kWo : PySem.W.keepIn K (.ref fWo) = true)
    (aTf : PySem.W.nsIn K mainGlobals "_law_told_fits" = some (some (.ref fTf)))
    (lTf : K.lookup fTf = some ⟨ocTf, odTf, .func (PySem.W.fnOf "_law_told_fits" "_law_told_fits" (defArgs sToldFits) (defBody sToldFits) (defScope sToldFits) .none kVTf dcTf pmTf anTf cdTf ctTf), slTf⟩)
    (cTf : PySem.W.codeIn K cdTf "_law_told_fits" = true)
    (kTf : PySem.W.keepIn K (.ref fTf) = true)
    (aFt : PySem.W.nsIn K mainGlobals "_law_fit" = some (some (.ref fFt)))
    (lFt : K.lookup fFt = some ⟨ocFt, odFt, .func (PySem.W.fnOf "_law_fit" "_law_fit" (defArgs sFit) (defBody sFit) (defScope sFit) .none kVFt dcFt pmFt anFt cdFt ctFt), slFt⟩)
    (cFt : PySem.W.codeIn K cdFt "_law_fit" = true)
    (kFt : PySem.W.keepIn K (.ref fFt) = true)
    (aVa : PySem.W.nsIn K mainGlobals "_law_valid" = some (some (.ref fVa)))
    (lVa : K.lookup fVa = some ⟨ocVa, odVa, .func (PySem.W.fnOf "_law_valid" "_law_valid" (defArgs sValid) (defBody sValid) (defScope sValid) .none kVVa dcVa pmVa anVa cdVa ctVa), slVa⟩)
    (cVa : PySem.W.codeIn K cdVa "_law_valid" = true)
    (kVa : PySem.W.keepIn K (.ref fVa) = true)
    (aTo : PySem.W.nsIn K mainGlobals "_law_told" = some (some (.ref fTo)))
    (lTo : K.lookup fTo = some ⟨ocTo, odTo, .func (PySem.W.fnOf "_law_told" "_law_told" (defArgs sTold) (defBody sTold) (defScope sTold) .none kVTo dcTo pmTo anTo cdTo ctTo), slTo⟩)
    (cTo : PySem.W.codeIn K cdTo "_law_told" = true)
    (kTo : PySem.W.keepIn K (.ref fTo) = true)
    (aAn : PySem.W.nsIn K mainGlobals "_law_answer" = some (some (.ref fAn)))
    (lAn : K.lookup fAn = some ⟨ocAn, odAn, .func (PySem.W.fnOf "_law_answer" "_law_answer" (defArgs sAnswer) (defBody sAnswer) (defScope sAnswer) .none kVAn dcAn pmAn anAn cdAn ctAn), slAn⟩)
    (cAn : PySem.W.codeIn K cdAn "_law_answer" = true)
    (kAn : PySem.W.keepIn K (.ref fAn) = true)
    (aTb : PySem.W.nsIn K mainGlobals "_law_tables" = some (some (.ref fTb)))
    (lTb : K.lookup fTb = some ⟨ocTb, odTb, .func (PySem.W.fnOf "_law_tables" "_law_tables" (defArgs sTables) (defBody sTables) (defScope sTables) .none kVTb dcTb pmTb anTb cdTb ctTb), slTb⟩)
    (cTb : PySem.W.codeIn K cdTb "_law_tables" = true)
    (kTb : PySem.W.keepIn K (.ref fTb) = true)
    (aL : PySem.W.nsIn K mainGlobals "law" = some (some (.ref fL)))
    (lL : K.lookup fL = some ⟨ocL, odL, .func (PySem.W.fnOf "law" "law" (defArgs sLaw) (defBody sLaw) (defScope sLaw) .none kVL dcL pmL anL cdL ctL), slL⟩)
    (cL : PySem.W.codeIn K cdL "law" = true)
    (kL : PySem.W.keepIn K (.ref fL) = true)
    (xNe : PySem.W.excIn K CN [.type "ValueError", .type "Exception", .type "BaseException", .type "object"] "ValueError.__new__" = true)
    (kNe : PySem.W.keepIn K (.ref CN) = true)
    (bNe : PySem.W.subIn K (.ref CN) (.type "BaseException") = some true)
    (tNe : PySem.W.typeIn K (.ref CN) = some (.type "type"))
    (sNe : PySem.W.subIn K (.ref CN) (.ref CS) = some true)
    (iSe : PySem.W.isClsIn K CS = true)
    (bSe : PySem.W.subIn K (.ref CS) (.type "BaseException") = some true)
    (tSe : PySem.W.typeIn K (.ref CS) = some (.type "type"))
    (e1 : PySem.W.findIn K (.ref CN) "__getattribute__" = some (some (.builtin "BaseException.__getattribute__")))
    (e2 : PySem.W.findIn K (.ref CN) "__getattr__" = some none)
    (e3 : PySem.W.hasDictIn K CN = true)
    (e4 : PySem.W.findIn K (.ref CN) "__class__" = some (some (.builtin "object.__class__")))
    (e5 : PySem.W.specialIn K (.builtin "object.__class__") "__get__" = some (some (.builtin "getset_descriptor.__get__")))
    (e6 : PySem.W.takesIn K (.builtin "object.__class__") = some true)
    (e7 : PySem.W.mroIn K CN (.type "object") = some true)
    (gHEAD : PySem.W.nsIn K mainGlobals "HEAD" = some (some (.int 5 tHEAD)))
    (gHOSTS : PySem.W.nsIn K mainGlobals "HOSTS" = some (some (.int 4 tHOSTS)))
    (gNAMESPACES : PySem.W.nsIn K mainGlobals "NAMESPACES" = some (some (.int 8 tNAMESPACES)))
    (gPLACES : PySem.W.nsIn K mainGlobals "PLACES" = some (some (.int 64 tPLACES)))
    (gKINDS : PySem.W.nsIn K mainGlobals "KINDS" = some (some (.ref aK)))
    (gFIELDS : PySem.W.nsIn K mainGlobals "FIELDS" = some (some (.ref aF)))
    (lKINDS : K.lookup aK = some ⟨.type "tuple", none, .seq #[.str "mark" u0, .str "make" u1, .str "remove" u2, .str "write" u3, .str "trim" u4, .str "snap" u5, .str "drop" u6, .str "register" u7, .str "leave" u8, .str "reserve" u9, .str "release" u10, .str "preempt" u11] nK, slK⟩)
    (lFIELDS : K.lookup aF = some ⟨.type "dict", none, .dict esF nF, #[]⟩)
    (kFIELDS : PySem.W.KeysLit w.params esF.toList)
    (nT0 : PySem.W.nsIn K aF "mark" = some (some (.ref aT0)))
    (lT0 : K.lookup aT0 = some ⟨.type "tuple", dT0, .seq #[.str "told" w0_0] nnT0, slT0⟩)
    (nT1 : PySem.W.nsIn K aF "make" = some (some (.ref aT1)))
    (lT1 : K.lookup aT1 = some ⟨.type "tuple", dT1, .seq #[.str "namespace" w1_0, .str "size" w1_1] nnT1, slT1⟩)
    (nT2 : PySem.W.nsIn K aF "remove" = some (some (.ref aT2)))
    (lT2 : K.lookup aT2 = some ⟨.type "tuple", dT2, .seq #[.str "namespace" w2_0] nnT2, slT2⟩)
    (nT3 : PySem.W.nsIn K aF "write" = some (some (.ref aT3)))
    (lT3 : K.lookup aT3 = some ⟨.type "tuple", dT3, .seq #[.str "namespace" w3_0, .str "place" w3_1, .str "value" w3_2] nnT3, slT3⟩)
    (nT4 : PySem.W.nsIn K aF "trim" = some (some (.ref aT4)))
    (lT4 : K.lookup aT4 = some ⟨.type "tuple", dT4, .seq #[.str "namespace" w4_0, .str "place" w4_1] nnT4, slT4⟩)
    (nT5 : PySem.W.nsIn K aF "snap" = some (some (.ref aT5)))
    (lT5 : K.lookup aT5 = some ⟨.type "tuple", dT5, .seq #[.str "namespace" w5_0] nnT5, slT5⟩)
    (nT6 : PySem.W.nsIn K aF "drop" = some (some (.ref aT6)))
    (lT6 : K.lookup aT6 = some ⟨.type "tuple", dT6, .seq #[.str "namespace" w6_0, .str "snapshot" w6_1] nnT6, slT6⟩)
    (nT7 : PySem.W.nsIn K aF "register" = some (some (.ref aT7)))
    (lT7 : K.lookup aT7 = some ⟨.type "tuple", dT7, .seq #[.str "namespace" w7_0] nnT7, slT7⟩)
    (nT8 : PySem.W.nsIn K aF "leave" = some (some (.ref aT8)))
    (lT8 : K.lookup aT8 = some ⟨.type "tuple", dT8, .seq #[.str "namespace" w8_0, .str "held" w8_1] nnT8, slT8⟩)
    (nT9 : PySem.W.nsIn K aF "reserve" = some (some (.ref aT9)))
    (lT9 : K.lookup aT9 = some ⟨.type "tuple", dT9, .seq #[.str "namespace" w9_0, .str "way" w9_1] nnT9, slT9⟩)
    (nT10 : PySem.W.nsIn K aF "release" = some (some (.ref aT10)))
    (lT10 : K.lookup aT10 = some ⟨.type "tuple", dT10, .seq #[.str "namespace" w10_0] nnT10, slT10⟩)
    (nT11 : PySem.W.nsIn K aF "preempt" = some (some (.ref aT11)))
    (lT11 : K.lookup aT11 = some ⟨.type "tuple", dT11, .seq #[.str "namespace" w11_0, .str "victim" w11_1, .str "way or none" w11_2] nnT11, slT11⟩)
    (z_isinstance : PySem.W.nsIn K mainGlobals "isinstance" = some none)
    (z_int : PySem.W.nsIn K mainGlobals "int" = some none)
    (z_bool : PySem.W.nsIn K mainGlobals "bool" = some none)
    (z_range : PySem.W.nsIn K mainGlobals "range" = some none)
    (z_len : PySem.W.nsIn K mainGlobals "len" = some none)
    (z_abs : PySem.W.nsIn K mainGlobals "abs" = some none)
    (z_list : PySem.W.nsIn K mainGlobals "list" = some none)
    (z_tuple : PySem.W.nsIn K mainGlobals "tuple" = some none)
    (z_str : PySem.W.nsIn K mainGlobals "str" = some none)
    (z_all : PySem.W.nsIn K mainGlobals "all" = some none)
    (z_zip : PySem.W.nsIn K mainGlobals "zip" = some none)
    (z_max : PySem.W.nsIn K mainGlobals "max" = some none)
    : ∃ fd : FuncData, (∀ (s : Shared) (v : Value), BindsTo s fd ⟨[v], []⟩ [("script", v)]) ∧ ∀ base : Heap, K.In base → base.Ns mainGlobals mg → FnOk l.prog w K mg base CX0 8 fa fd ["script"] (spLaw K) := by
  have e := hfa.symm.trans (PySem.W.mg_of X G aL)
  cases e
  have B : Blt mg := ⟨PySem.W.mg_none_of X G z_range, PySem.W.mg_none_of X G z_len, PySem.W.mg_none_of X G z_abs, PySem.W.mg_none_of X G z_int⟩
  have D : Bds mg fW := ⟨PySem.W.mg_none_of X G z_isinstance, PySem.W.mg_none_of X G z_int, PySem.W.mg_none_of X G z_bool, PySem.W.mg_none_of X G z_str, PySem.W.mg_none_of X G z_tuple, PySem.W.mg_none_of X G z_list, PySem.W.mg_of X G aW⟩
  have NVx : NV K mg CN CS := ⟨PySem.W.mg_of X G aN, xNe, kNe, bNe, tNe, PySem.W.mg_of X G aS, exm_sub bSe iSe tSe sNe⟩
  have XC : ExcC K CN := ⟨e1, e2, bNe, e3, e4, e5, e6, e7⟩
  have RXx : RX K w mg aK aF := by
    refine ⟨PySem.W.mg_of X G gKINDS, fun H => .inr ⟨_, _, _, lKINDS, rfl, rfl, (show (12 : Nat) ≤ sizeLine by decide), (.cons ⟨_, rfl⟩ (.cons ⟨_, rfl⟩ (.cons ⟨_, rfl⟩ (.cons ⟨_, rfl⟩ (.cons ⟨_, rfl⟩ (.cons ⟨_, rfl⟩ (.cons ⟨_, rfl⟩ (.cons ⟨_, rfl⟩ (.cons ⟨_, rfl⟩ (.cons ⟨_, rfl⟩ (.cons ⟨_, rfl⟩ (.cons ⟨_, rfl⟩ .nil))))))))))))⟩, ⟨_, lKINDS, rfl, rfl⟩, PySem.W.mg_of X G gFIELDS, fun p hp => ?_, ⟨_, PySem.W.mg_of X G gHEAD⟩, ⟨_, PySem.W.mg_of X G gHOSTS⟩, ⟨_, PySem.W.mg_of X G gNAMESPACES⟩, ⟨_, PySem.W.mg_of X G gPLACES⟩⟩
    simp only [fieldT, List.mem_cons, List.not_mem_nil, or_false] at hp
    rcases hp with rfl | rfl | rfl | rfl | rfl | rfl | rfl | rfl | rfl | rfl | rfl | rfl
    · exact ⟨aT0, ⟨_, _, _, lFIELDS, kFIELDS, nT0, rfl⟩, fun H => .inr ⟨_, _, _, lT0, rfl, rfl, (show (1 : Nat) ≤ sizeLine by decide), (.cons ⟨_, rfl⟩ .nil)⟩⟩
    · exact ⟨aT1, ⟨_, _, _, lFIELDS, kFIELDS, nT1, rfl⟩, fun H => .inr ⟨_, _, _, lT1, rfl, rfl, (show (2 : Nat) ≤ sizeLine by decide), (.cons ⟨_, rfl⟩ (.cons ⟨_, rfl⟩ .nil))⟩⟩
    · exact ⟨aT2, ⟨_, _, _, lFIELDS, kFIELDS, nT2, rfl⟩, fun H => .inr ⟨_, _, _, lT2, rfl, rfl, (show (1 : Nat) ≤ sizeLine by decide), (.cons ⟨_, rfl⟩ .nil)⟩⟩
    · exact ⟨aT3, ⟨_, _, _, lFIELDS, kFIELDS, nT3, rfl⟩, fun H => .inr ⟨_, _, _, lT3, rfl, rfl, (show (3 : Nat) ≤ sizeLine by decide), (.cons ⟨_, rfl⟩ (.cons ⟨_, rfl⟩ (.cons ⟨_, rfl⟩ .nil)))⟩⟩
    · exact ⟨aT4, ⟨_, _, _, lFIELDS, kFIELDS, nT4, rfl⟩, fun H => .inr ⟨_, _, _, lT4, rfl, rfl, (show (2 : Nat) ≤ sizeLine by decide), (.cons ⟨_, rfl⟩ (.cons ⟨_, rfl⟩ .nil))⟩⟩
    · exact ⟨aT5, ⟨_, _, _, lFIELDS, kFIELDS, nT5, rfl⟩, fun H => .inr ⟨_, _, _, lT5, rfl, rfl, (show (1 : Nat) ≤ sizeLine by decide), (.cons ⟨_, rfl⟩ .nil)⟩⟩
    · exact ⟨aT6, ⟨_, _, _, lFIELDS, kFIELDS, nT6, rfl⟩, fun H => .inr ⟨_, _, _, lT6, rfl, rfl, (show (2 : Nat) ≤ sizeLine by decide), (.cons ⟨_, rfl⟩ (.cons ⟨_, rfl⟩ .nil))⟩⟩
    · exact ⟨aT7, ⟨_, _, _, lFIELDS, kFIELDS, nT7, rfl⟩, fun H => .inr ⟨_, _, _, lT7, rfl, rfl, (show (1 : Nat) ≤ sizeLine by decide), (.cons ⟨_, rfl⟩ .nil)⟩⟩
    · exact ⟨aT8, ⟨_, _, _, lFIELDS, kFIELDS, nT8, rfl⟩, fun H => .inr ⟨_, _, _, lT8, rfl, rfl, (show (2 : Nat) ≤ sizeLine by decide), (.cons ⟨_, rfl⟩ (.cons ⟨_, rfl⟩ .nil))⟩⟩
    · exact ⟨aT9, ⟨_, _, _, lFIELDS, kFIELDS, nT9, rfl⟩, fun H => .inr ⟨_, _, _, lT9, rfl, rfl, (show (2 : Nat) ≤ sizeLine by decide), (.cons ⟨_, rfl⟩ (.cons ⟨_, rfl⟩ .nil))⟩⟩
    · exact ⟨aT10, ⟨_, _, _, lFIELDS, kFIELDS, nT10, rfl⟩, fun H => .inr ⟨_, _, _, lT10, rfl, rfl, (show (1 : Nat) ≤ sizeLine by decide), (.cons ⟨_, rfl⟩ .nil)⟩⟩
    · exact ⟨aT11, ⟨_, _, _, lFIELDS, kFIELDS, nT11, rfl⟩, fun H => .inr ⟨_, _, _, lT11, rfl, rfl, (show (3 : Nat) ≤ sizeLine by decide), (.cons ⟨_, rfl⟩ (.cons ⟨_, rfl⟩ (.cons ⟨_, rfl⟩ .nil)))⟩⟩
  have FW := fun_mk (st := sWhole) lW cW kW
  have FAL := fun_mk (st := sAtLeast) lAL cAL kAL
  have FB := fun_mk (st := sBetween) lB cB kB
  have FMr := fun_mk (st := sMake) lMr cMr kMr
  have FIr := fun_mk (st := sIsRec) lIr cIr kIr
  have FFc := fun_mk (st := sCount) lFc cFc kFc
  have FFo := fun_mk (st := sFieldsOf) lFo cFo kFo
  have FAo := fun_mk (st := sAnswerOf) lAo cAo kAo
  have FIk := fun_mk (st := sIsKind) lIk cIk kIk
  have FIc := fun_mk (st := sIsCounter) lIc cIc kIc
  have FIf := fun_mk (st := sIsField) lIf cIf kIf
  have FIt := fun_mk (st := sIsTold) lIt cIt kIt
  have FT := fun_mk (st := sTape) lT cT kT
  have FA := fun_mk (st := sAt) lA cA kA
  have FFi := fun_mk (st := sFields) lFi cFi kFi
  have FIn := fun_mk (st := sInteger) lIn cIn kIn
  have FWi := fun_mk (st := sWithin) lWi cWi kWi
  have FWo := fun_mk (st := sWord) lWo cWo kWo
  have FTf := fun_mk (st := sToldFits) lTf cTf kTf
  have FFt := fun_mk (st := sFit) lFt cFt kFt
  have FVa := fun_mk (st := sValid) lVa cVa kVa
  have FTo := fun_mk (st := sTold) lTo cTo kTo
  have FAn := fun_mk (st := sAnswer) lAn cAn kAn
  have FTb := fun_mk (st := sTables) lTb cTb kTb
  have FL := fun_mk (st := sLaw) lL cL kL
  have bW := FW.binds (ps := ["value"]) fun _ _ _ _ _ _ us hl => match us, hl with | [_], _ => rfl
  have bAL := FAL.binds (ps := ["value", "low"]) fun _ _ _ _ _ _ us hl => match us, hl with | [_, _], _ => rfl
  have bB := FB.binds (ps := ["value", "low", "high"]) fun _ _ _ _ _ _ us hl => match us, hl with | [_, _, _], _ => rfl
  have bMr := FMr.binds (ps := ["order", "kind", "host", "session", "counter", "fields"]) fun _ _ _ _ _ _ us hl => match us, hl with | [_, _, _, _, _, _], _ => rfl
  have bIr := FIr.binds (ps := ["value"]) fun _ _ _ _ _ _ us hl => match us, hl with | [_], _ => rfl
  have bFc := FFc.binds (ps := ["kind"]) fun _ _ _ _ _ _ us hl => match us, hl with | [_], _ => rfl
  have bFo := FFo.binds (ps := ["record"]) fun _ _ _ _ _ _ us hl => match us, hl with | [_], _ => rfl
  have bAo := FAo.binds (ps := ["record"]) fun _ _ _ _ _ _ us hl => match us, hl with | [_], _ => rfl
  have bIk := FIk.binds (ps := ["value"]) fun _ _ _ _ _ _ us hl => match us, hl with | [_], _ => rfl
  have bIc := FIc.binds (ps := ["value", "kind"]) fun _ _ _ _ _ _ us hl => match us, hl with | [_, _], _ => rfl
  have bIf := FIf.binds (ps := ["name", "value", "order"]) fun _ _ _ _ _ _ us hl => match us, hl with | [_, _, _], _ => rfl
  have bIt := FIt.binds (ps := ["value"]) fun _ _ _ _ _ _ us hl => match us, hl with | [_], _ => rfl
  have bT := FT.binds (ps := ["script"]) fun _ _ _ _ _ _ us hl => match us, hl with | [_], _ => rfl
  have bA := FA.binds (ps := ["tape", "k"]) fun _ _ _ _ _ _ us hl => match us, hl with | [_, _], _ => rfl
  have bFi := FFi.binds (ps := ["kind", "order", "number", "pick"]) fun _ _ _ _ _ _ us hl => match us, hl with | [_, _, _, _], _ => rfl
  have bIn := FIn.binds (ps := ["value"]) fun _ _ _ _ _ _ us hl => match us, hl with | [_], _ => rfl
  have bWi := FWi.binds (ps := ["value", "low", "high"]) fun _ _ _ _ _ _ us hl => match us, hl with | [_, _, _], _ => rfl
  have bWo := FWo.binds (ps := ["value", "words"]) fun _ _ _ _ _ _ us hl => match us, hl with | [_, _], _ => rfl
  have bTf := FTf.binds (ps := ["value"]) fun _ _ _ _ _ _ us hl => match us, hl with | [_], _ => rfl
  have bFt := FFt.binds (ps := ["kind", "order", "fields"]) fun _ _ _ _ _ _ us hl => match us, hl with | [_, _, _], _ => rfl
  have bVa := FVa.binds (ps := ["order", "kind", "host", "session", "counter", "fields"]) fun _ _ _ _ _ _ us hl => match us, hl with | [_, _, _, _, _, _], _ => rfl
  have bTo := FTo.binds (ps := ["parts", "fields"]) fun _ _ _ _ _ _ us hl => match us, hl with | [_, _], _ => rfl
  have bAn := FAn.binds (ps := ["order", "kind"]) fun _ _ _ _ _ _ us hl => match us, hl with | [_, _], _ => rfl
  have bTb := FTb.binds (ps := []) fun _ _ _ _ _ _ us hl => match us, hl with | [], _ => rfl
  refine ⟨PySem.W.fnOf "law" "law" (defArgs sLaw) (defBody sLaw) (defScope sLaw) .none kVL dcL pmL anL cdL ctL, fun s v => .of_eq rfl, fun base _ _ => ?_⟩
  have dW := Def.mk (ok_whole (P := l.prog) (wrl := w) (base := base) FW D) bW kW (PySem.W.mg_of X G aW)
  have dAL := Def.mk (ok_atLeast (P := l.prog) (wrl := w) (base := base) FAL D FW bW) bAL kAL (PySem.W.mg_of X G aAL)
  have dB := Def.mk (ok_between (P := l.prog) (wrl := w) (base := base) FB D FW bW) bB kB (PySem.W.mg_of X G aB)
  have dIt := Def.mk (ok_isTold FIt D (PySem.W.mg_none_of X G z_len) dAL) bIt kIt (PySem.W.mg_of X G aIt)
  have dIk := Def.mk (ok_isKind (P := l.prog) (base := base) FIk D RXx) bIk kIk (PySem.W.mg_of X G aIk)
  have dIc := Def.mk (ok_isCounter FIc dAL dB) bIc kIc (PySem.W.mg_of X G aIc)
  have dIf := Def.mk (ok_isField FIf D RXx dW dB dIt) bIf kIf (PySem.W.mg_of X G aIf)
  have dFc := Def.mk (ok_count FFc NVx RXx (PySem.W.mg_none_of X G z_len) dIk) bFc kFc (PySem.W.mg_of X G aFc)
  have dIr := Def.mk (ok_isRec FIr D RXx (PySem.W.mg_none_of X G z_len) (PySem.W.mg_none_of X G z_all) (PySem.W.mg_none_of X G z_zip) dAL dB dIk dIc dIf dFc) bIr kIr (PySem.W.mg_of X G aIr)
  have dMr := Def.mk (ok_make FMr D NVx dIr) bMr kMr (PySem.W.mg_of X G aMr)
  have dFo := Def.mk (ok_fieldsOf (P := l.prog) (base := base) FFo RXx) bFo kFo (PySem.W.mg_of X G aFo)
  have dAo := Def.mk (ok_answerOf (P := l.prog) (wrl := w) (mg := mg) (base := base) FAo) bAo kAo (PySem.W.mg_of X G aAo)
  have dAn := Def.mk (ok_answer (P := l.prog) (wrl := w) (mg := mg) (base := base) FAn) bAn kAn (PySem.W.mg_of X G aAn)
  have dIn := Def.mk (ok_integer (P := l.prog) (wrl := w) (base := base) FIn D) bIn kIn (PySem.W.mg_of X G aIn)
  have dWi := Def.mk (ok_within FWi dIn) bWi kWi (PySem.W.mg_of X G aWi)
  have dWo := Def.mk (ok_word (P := l.prog) (wrl := w) (base := base) FWo D) bWo kWo (PySem.W.mg_of X G aWo)
  have dTf := Def.mk (ok_fits FTf D (PySem.W.mg_none_of X G z_len) dIn) bTf kTf (PySem.W.mg_of X G aTf)
  have dFt := Def.mk (ok_fit FFt D RXx (PySem.W.mg_none_of X G z_len) dIn dWi dWo dTf) bFt kFt (PySem.W.mg_of X G aFt)
  have dVa := Def.mk (ok_valid FVa D RXx dIn dWi dFt) bVa kVa (PySem.W.mg_of X G aVa)
  have dTo := Def.mk (ok_told FTo D NVx XC dMr) bTo kTo (PySem.W.mg_of X G aTo)
  have dTb := Def.mk (ok_tables FTb RXx dFc) bTb kTb (PySem.W.mg_of X G aTb)
  have dFi := Def.mk (ok_fields (P := l.prog) (wrl := w) (base := base) FFi (PySem.W.mg_none_of X G z_max)) bFi kFi (PySem.W.mg_of X G aFi)
  have dT := Def.mk (ok_tape (P := l.prog) (w := w) (base := base) FT B) bT kT (PySem.W.mg_of X G aT)
  have dA := Def.mk (ok_at (P := l.prog) (w := w) (base := base) FA B) bA kA (PySem.W.mg_of X G aA)
  exact ok_law FL D B RXx dT dA dTb dFi dTo dVa dIr dFo dAo dAn
/-- the law row's walk: at most 63 items -/
theorem walk_law {l : PySem.W.OpenLaw} {q : Program} {loose : List Str} {XP : (Str → Option Value) → Heap → Prop} {YP : World → Heap → Prop} {d : DefRec} {K : Params → PySem.W.Frag} (hn : l.most = some 63) (hdf : d.params.defaults = [])
    (hY : ∀ (w : World) (h : Heap), YP w h → (K w.params).In h)
    (F : ∀ (w : World) (mg : Str → Option Value) (fa : Addr) (h : Heap), (K w.params).In h → h.Ns mainGlobals mg → mg d.name = some (.ref fa) →
      ∃ fd : FuncData, (∀ (s : Shared) (u : Value), BindsTo s fd ⟨[u], []⟩ [("script", u)]) ∧ ∀ base : Heap, (K w.params).In base → base.Ns mainGlobals mg → FnOk l.prog w (K w.params) mg base CX0 8 fa fd ["script"] (spLaw (K w.params))) :
    PySem.W.WalkO q loose XP YP l.row.toRowW d [] (fun f vs => PySem.call f vs) :=
  L2.walk_of (n := 63) (k := 8) (x := "script") (CX := fun _ => CX0) (sp := fun w => spLaw (K w.params)) hn (by decide) hdf ⟨rfl, by decide, by decide⟩ hY F (fun _ _ a ns hl _ hS => ⟨a, ns, rfl, hS, hl, fun _ => rfl⟩) fun _ _ _ _ _ z => z
end Sg

set_option Elab.async false
set_option linter.all false
set_option maxRecDepth 100000
set_option maxHeartbeats 8000000
open PySem PySem.W PyProof.Rows
set_option maxRecDepth 100000 in
set_option maxHeartbeats 0 in
theorem PySem.Challenge.cw_spindlegate_k04_records_holds : PySem.Challenge.rw_spindlegate_k04_records.Holds := by
  w_on; o_law; k_head; (case hw => w_witness2)
  k_fill
  refine Sg.walk_law (l := PySem.Challenge.rw_spindlegate_k04_records) rfl rfl (fun w h Y => PySem.W.kIn_of Y) ?F
  case F =>
    intro w mg fa h KX G hmg
    refine' Sg.all_mk KX G hmg ?aN ?aS ?aW ?lW ?cW ?kW ?aAL ?lAL ?cAL ?kAL ?aB ?lB ?cB ?kB ?aMr ?lMr ?cMr ?kMr ?aIr ?lIr ?cIr ?kIr ?aFc ?lFc ?cFc ?kFc ?aFo ?lFo ?cFo ?kFo ?aAo ?lAo ?cAo ?kAo ?aIk ?lIk ?cIk ?kIk ?aIc ?lIc ?cIc ?kIc ?aIf ?lIf ?cIf ?kIf ?aIt ?lIt ?cIt ?kIt ?aT ?lT ?cT ?kT ?aA ?lA ?cA ?kA ?aFi ?lFi ?cFi ?kFi ?aIn ?lIn ?cIn ?kIn ?aWi ?lWi ?cWi ?kWi ?aWo ?lWo ?cWo ?kWo ?aTf ?lTf ?cTf ?kTf ?aFt ?lFt ?cFt ?kFt ?aVa ?lVa ?cVa ?kVa ?aTo ?lTo ?cTo ?kTo ?aAn ?lAn ?cAn ?kAn ?aTb ?lTb ?cTb ?kTb ?aL ?lL ?cL ?kL ?xNe ?kNe ?bNe ?tNe ?sNe ?iSe ?bSe ?tSe ?e1 ?e2 ?e3 ?e4 ?e5 ?e6 ?e7 ?gHEAD ?gHOSTS ?gNAMESPACES ?gPLACES ?gKINDS ?gFIELDS ?lKINDS ?lFIELDS ?kFIELDS ?nT0 ?lT0 ?nT1 ?lT1 ?nT2 ?lT2 ?nT3 ?lT3 ?nT4 ?lT4 ?nT5 ?lT5 ?nT6 ?lT6 ?nT7 ?lT7 ?nT8 ?lT8 ?nT9 ?lT9 ?nT10 ?lT10 ?nT11 ?lT11 ?z_isinstance ?z_int ?z_bool ?z_range ?z_len ?z_abs ?z_list ?z_tuple ?z_str ?z_all ?z_zip ?z_max
    (case aN => k_is)
    (case aS => k_is)
    (case aW => k_is)
    (case lW => k_is)
    (case cW => k_is)
    (case kW => k_is)
    (case aAL => k_is)
    (case lAL => k_is)
    (case cAL => k_is)
    (case kAL => k_is)
    (case aB => k_is)
    (case lB => k_is)
    (case cB => k_is)
    (case kB => k_is)
    (case aMr => k_is)
    (case lMr => k_is)
    (case cMr => k_is)
    (case kMr => k_is)
    (case aIr => k_is)
    (case lIr => k_is)
    (case cIr => k_is)
    (case kIr => k_is)
    (case aFc => k_is)
    (case lFc => k_is)
    (case cFc => k_is)
    (case kFc => k_is)
    (case aFo => k_is)
    (case lFo => k_is)
    (case cFo => k_is)
    (case kFo => k_is)
    (case aAo => k_is)
    (case lAo => k_is)
    (case cAo => k_is)
    (case kAo => k_is)
    (case aIk => k_is)
    (case lIk => k_is)
    (case cIk => k_is)
    (case kIk => k_is)
    (case aIc => k_is)
    (case lIc => k_is)
    (case cIc => k_is)
    (case kIc => k_is)
    (case aIf => k_is)
    (case lIf => k_is)
    (case cIf => k_is)
    (case kIf => k_is)
    (case aIt => k_is)
    (case lIt => k_is)
    (case cIt => k_is)
    (case kIt => k_is)
    (case aT => k_is)
    (case lT => k_is)
    (case cT => k_is)
    (case kT => k_is)
    (case aA => k_is)
    (case lA => k_is)
    (case cA => k_is)
    (case kA => k_is)
    (case aFi => k_is)
    (case lFi => k_is)
    (case cFi => k_is)
    (case kFi => k_is)
    (case aIn => k_is)
    (case lIn => k_is)
    (case cIn => k_is)
    (case kIn => k_is)
    (case aWi => k_is)
    (case lWi => k_is)
    (case cWi => k_is)
    (case kWi => k_is)
    (case aWo => k_is)
    (case lWo => k_is)
    (case cWo => k_is)
    (case kWo => k_is)
    (case aTf => k_is)
    (case lTf => k_is)
    (case cTf => k_is)
    (case kTf => k_is)
    (case aFt => k_is)
    (case lFt => k_is)
    (case cFt => k_is)
    (case kFt => k_is)
    (case aVa => k_is)
    (case lVa => k_is)
    (case cVa => k_is)
    (case kVa => k_is)
    (case aTo => k_is)
    (case lTo => k_is)
    (case cTo => k_is)
    (case kTo => k_is)
    (case aAn => k_is)
    (case lAn => k_is)
    (case cAn => k_is)
    (case kAn => k_is)
    (case aTb => k_is)
    (case lTb => k_is)
    (case cTb => k_is)
    (case kTb => k_is)
    (case aL => k_is)
    (case lL => k_is)
    (case cL => k_is)
    (case kL => k_is)
    (case xNe => k_exc)
    (case kNe => k_is)
    (case bNe => k_is)
    (case tNe => k_is)
    (case sNe => first | rfl | k_is)
    (case iSe => k_is)
    (case bSe => k_is)
    (case tSe => k_is)
    (case e1 => k_is)
    (case e2 => k_is)
    (case e3 => k_is)
    (case e4 => k_is)
    (case e5 => first | rfl | k_is)
    (case e6 => first | rfl | k_is)
    (case e7 => first | rfl | k_is)
    (case gHEAD => k_is)
    (case gHOSTS => k_is)
    (case gNAMESPACES => k_is)
    (case gPLACES => k_is)
    (case gKINDS => k_is)
    (case gFIELDS => k_is)
    (case lKINDS => k_is)
    (case lFIELDS => k_is)
    (case kFIELDS => first | k_is | (repeat' (first | exact trivial | refine ⟨⟨_, _, rfl, rfl⟩, ?_⟩)))
    (case nT0 => k_is)
    (case lT0 => k_is)
    (case nT1 => k_is)
    (case lT1 => k_is)
    (case nT2 => k_is)
    (case lT2 => k_is)
    (case nT3 => k_is)
    (case lT3 => k_is)
    (case nT4 => k_is)
    (case lT4 => k_is)
    (case nT5 => k_is)
    (case lT5 => k_is)
    (case nT6 => k_is)
    (case lT6 => k_is)
    (case nT7 => k_is)
    (case lT7 => k_is)
    (case nT8 => k_is)
    (case lT8 => k_is)
    (case nT9 => k_is)
    (case lT9 => k_is)
    (case nT10 => k_is)
    (case lT10 => k_is)
    (case nT11 => k_is)
    (case lT11 => k_is)
    (case z_isinstance => k_is)
    (case z_int => k_is)
    (case z_bool => k_is)
    (case z_range => k_is)
    (case z_len => k_is)
    (case z_abs => k_is)
    (case z_list => k_is)
    (case z_tuple => k_is)
    (case z_str => k_is)
    (case z_all => k_is)
    (case z_zip => k_is)
    (case z_max => k_is)

