import PyProof.Rows.All
import Wide.All
import OpenK.AllK
import Wide.FinOn
import HandS.Base
import HandS.Call
import HandS.List
import HandS.Comp
import HandS.Ends
import HandS.Dict
import HandS.Iter
import HandS.Text
import HandS.Words
import HandS.WordsList
import HandS.Steps
import HandS.Evl
import HandS.Exc
import HandS.TryOnly
import HandS.ExcOwn
import HandS.WordsExc
import HandS.IsInst
import HandS.ExcIs
import HandS.Deep
import PySem.Challenge.RW_spindlegate_k09_letters_on_their_way
set_option Elab.async false
set_option linter.all false
set_option maxRecDepth 100000
set_option maxHeartbeats 4000000
/-! General lemmas: readings of expressions, small heaps, lists. -/
namespace Sg
open PySem PySem.Spec PyProof.Rows L2
section
variable {σ : L2.St} {H : Hp} {ta tb te : TE} {i j : Int} {K : PySem.W.Frag} {x y z : V}
theorem v0 {g : Int → Int → V} (ha : Val ta σ H (.int i)) (hb : Val tb σ H (.int j)) : Val (tOp (rI0 g) ta tb) σ H (g i j) := val_op ha hb fun _ q => ⟨i, j, rfl, rfl, q⟩
theorem vc {C : Int → Int → Prop} {g : Int → Int → V} (ha : Val ta σ H (.int i)) (hb : Val tb σ H (.int j)) (hc : C i j) : Val (tOp (rI C g) ta tb) σ H (g i j) := val_op ha hb fun _ q => ⟨i, j, rfl, rfl, hc, q⟩
theorem vEq (ha : Val ta σ H x) (hb : Val tb σ H y) (hs : scal x y = true) : Val (tOp rEq ta tb) σ H (.bl (decide (x = y))) := val_op ha hb fun _ q => ⟨hs, q⟩
theorem vNe (ha : Val ta σ H x) (hb : Val tb σ H y) (hs : scal x y = true) : Val (tOp rNe ta tb) σ H (.bl (!decide (x = y))) := val_op ha hb fun _ q => ⟨hs, q⟩
theorem vIx {p : Addr} {xs : List V} {n : Nat} (ha : Val ta σ H (.ref p)) (hb : Val tb σ H (.int (n : Int))) (hp : SqL K H p xs) (hn : xs[n]? = some z) : Val (tOp (rIxL K) ta tb) σ H z :=
  val_op ha hb fun _ q => ⟨p, xs, _, z, rfl, rfl, hp, atI_nat hn, q⟩
theorem vIs {v w : V} (h : Val te σ H v) (e : v = w) : Val te σ H w := e ▸ h
/-- a built-in's call of one argument -/
theorem vCB1 {r : List V → Hp → VK → Prop} (ha : Val ta σ H x) (hr : ∀ Q : VK, Q z H → r [x] H Q) : Val (tCB r (tCons ta tNil)) σ H z := fun Q q => ha _ (hr Q q)
theorem vCB2 {r : List V → Hp → VK → Prop} (ha : Val ta σ H x) (hb : Val tb σ H y) (hr : ∀ Q : VK, Q z H → r [x, y] H Q) : Val (tCB r (tCons ta (tCons tb tNil))) σ H z := fun Q q => ha _ (hb _ (hr Q q))
theorem aTest {b : Bool} (h : Val te σ H (.bl b)) : Ans (tTest te) σ H b := fun Q q => h _ ⟨b, rfl, q⟩
end
theorem map_get {α β : Type} {f : α → β} {l : List α} {i : Nat} {y : β} (h : (l.map f)[i]? = some y) : ∃ z, l[i]? = some z ∧ y = f z := by
  rw [List.getElem?_map] at h
  cases e : l[i]? with
  | none =>
    rw [e] at h
    cases h
  | some z =>
    rw [e] at h
    exact ⟨z, rfl, (Option.some.inj h).symm⟩
theorem get_map {α β : Type} {f : α → β} {l : List α} {i : Nat} {z : α} (h : l[i]? = some z) : (l.map f)[i]? = some (f z) := by rw [List.getElem?_map, h]; rfl
theorem upd_two {H : Hp} {a : Addr} {o u : HO} : upd (upd H a o) a u = upd H a u := upd_upd
theorem same_new {H : Hp} {p : Addr} {o : HO} (h : H p = Option.none) : Same H (upd H p o) := fun b u e => by
  rw [upd_ne (ne_of_none e h)]
  exact e
end Sg

set_option Elab.async false
set_option linter.all false
set_option maxRecDepth 100000
set_option maxHeartbeats 4000000
namespace Sg
open PySem PySem.Spec PyProof.Rows L2
/-! ### rules of our own -/
section
variable {X : Cx}
/-- C(), an own exception without an __init__ of its own -/
theorem pmk_own0 {C : Addr} {bmB : List Value} {B newId initId : String} {x : Str} {p pos : Pos} (F : ExcBaseFacts B newId initId bmB) (q : PySem.W.excIn X.K C bmB newId = true) (gC : X.mg x = some (.ref C))
    (kC : PySem.W.keepIn X.K (.ref C) = true) (r : Raises X (.ref C)) (hg : Gl X x) (hdb : (x == ("__debug__" : Str)) = false := by decide) :
    PMk X (.Call (.Name x p) [] [] pos) (fun _ H Q => Q (.ref C) none H) := by
  intro pins s σ H Q I h
  refine wpAny_Call_Name_kw (ld_glob I hg gC ?_ hdb)
  refine PySem.W.callWith_K0 I.kIn kC ?_
  obtain ⟨bm, N, nm, qn, bs, hdct, sn, sub, ab, col, dd, k0, k1, k2, k3, k5, mN, hC, hN, hni, T⟩ := exc_obj I.kIn q
  exact wpAny_call_exc_subT F T hC hN hni (fun h' e hm => mk_of I hm r h (I.hok.gone hm.new)) (Nat.zero_le _)
/-- o[i] of a list, by values, a place in bounds from the left -/
def rGetL (K : PySem.W.Frag) : V → V → Hp → VK → Prop := fun o i H Q => ∃ p xs n v, o = .ref p ∧ i = .int ((n : Nat) : Int) ∧ SqL K H p xs ∧ xs[n]? = some v ∧ Q v H
theorem get_list : PGet X (rGetL X.K) := by
  intro pins s σ H o i ov iv Q I ro ri h
  obtain ⟨p, xs, n, v, rfl, rfl, hq, he, q⟩ := h
  cases ro
  obtain ⟨t, rfl⟩ := ri
  obtain ⟨its, r, pl, hz⟩ := I.list hq
  obtain ⟨w, ew, rw'⟩ := r.get he
  have hl := r.length
  have hn := line63
  have hb := (List.getElem?_eq_some_iff.mp he).1
  exact wpAny_getItem_list pl.isList (by omega) (by omega) (by simpa using ew) ⟨v, H, I, rw', q⟩
/-- l.count(y): how many are equal, data of any depth -/
def rCountD (K : PySem.W.Frag) : V → List V → Hp → VK → Prop := fun x xs H Q => ∃ (a : Addr) (y : V) (d : PyData) (ds : List PyData), x = V.ref a ∧ xs = [y] ∧ Dp K H (V.ref a) (.list ds) ∧ Dp K H y d ∧
  SeqAt.shaped (.list ds) = true ∧ SeqAt.shaped d = true ∧ Q (.int (ds.countP (fun z => PyData.eqv z d) : Nat)) H
theorem mt_countD (hu : X.A.units + 65 < cLine) : MtR X "list.count" (rCountD X.K) := by
  intro pins s σ H x xs v us Q I rx rxs h
  obtain ⟨a, y, d, ds, rfl, rfl, hl, hy, sl, sd, q⟩ := h
  cases rx
  cases rxs with
  | cons ry rt =>
    rename_i uy ut
    cases rt
    obtain ⟨bs, r1⟩ := Dp.reads I d y uy hy ry
    have hxs : PyData.canLayAll0 ds = true := SeqAt.canLay_of_shaped sl
    have hroom : X.A.units + 1 + min (PyData.depthAll ds) d.depth < cLine := room_in_shaped sd hu
    cases hl with
    | lst hs ha =>
      obtain ⟨its, rv, ⟨⟨cls, dd, data, sls⟩, n, ho, hc, hdn, hdt⟩, hlen⟩ := I.list hs
      simp only at hc hdt
      subst hc hdt
      obtain ⟨as, h4⟩ := Dp.readsAll I ds _ its ha rv
      have hmap : its.map (SeqAt.readOf s.heap) = ds := SeqAt.readsAll_map ds its as hxs h4
      refine call_meets PySem.F.slot_list_count ⟨_, ho, rfl⟩ PySem.F.entry_list_count (PySem.F.args_list_count_2 _ _)
        (SeqAt.list_countAt a its.toArray n dd sls uy (fun u => PyData.eqv (SeqAt.readOf s.heap u) d)) ⟨ho, SeqAt.items_eqAt (vs := its.toArray) (show ReadsAll s.heap its.toArray.toList ds as from h4) r1 hxs (SeqAt.canLay_of_shaped sd) hroom, ?_⟩
      have ec : its.toArray.toList.countP (fun u => PyData.eqv (SeqAt.readOf s.heap u) d) = ds.countP (fun z => PyData.eqv z d) := by
        rw [← hmap, List.countP_map]
        rfl
      refine ⟨.int (ds.countP (fun z => PyData.eqv z d) : Nat), H, I.tok _, ⟨s.toks, ?_⟩, q⟩
      show Value.int ((its.toArray.toList.countP (fun u => PyData.eqv (SeqAt.readOf s.heap u) d) : Nat) : Int) s.toks = _
      rw [ec]
/-- isinstance(e, c), e the exception that the suite holds, whatever its class is -/
def rIsX (K : PySem.W.Frag) (a : Addr) (cls : Value) (d : Option Addr) : List V → Hp → VK → Prop := fun xs H Q => ∃ (D : Addr) (c : V) (cv : Value) (b : Bool), cls = .ref D ∧ d = none ∧ ExcC K D ∧ xs = [.ref a, c] ∧ (∀ u, RelV c u → u = cv) ∧ PySem.W.kitOne K (.ref D) cv = some b ∧ Q (.bl b) H
theorem call_isX {a : Addr} {oe : Obj} {cls : Value} {d : Option Addr} {pn : List (Addr × Obj)} (hz : Zc cls d oe) (hf : ∃ vs, oe.data = .fields vs) : CallR (X.suite a ((a, oe) :: pn)) (.builtin "isinstance") (rIsX X.K a cls d) := by
  intro pins s σ H xs us Q I r h
  obtain ⟨D, c, cv, b, rfl, rfl, C, rfl, hcv, e, q⟩ := h
  exact call_isE C hz hf pins s σ H _ us Q I r ⟨c, cv, b, rfl, hcv, e, q⟩
end
/-- an exception of a subclass is what the clause names -/
theorem exm_sub {K : PySem.W.Frag} {S T : Addr} (h1 : PySem.W.subIn K (.ref T) (.type "BaseException") = some true) (h2 : PySem.W.isClsIn K T = true) (h3 : PySem.W.typeIn K (.ref T) = some (.type "type")) (h4 : PySem.W.subIn K (.ref S) (.ref T) = some true) :
    PySem.W.exmOne K (.ref S) (.ref T) = some true := by
  have e1 : (PySem.W.subIn K (.ref T) (.type "BaseException") == some true) = true := by rw [h1] <;> rfl
  have e2 : ((PySem.W.clsIn K T).isSome && PySem.W.typeIn K (.ref T) == some (.type "type")) = true := by
    have h2' : (PySem.W.clsIn K T).isSome = true := h2
    rw [h2', h3] <;> rfl
  show (if (PySem.W.subIn K (.ref T) (.type "BaseException") == some true) = true then (if ((PySem.W.clsIn K T).isSome && PySem.W.typeIn K (.ref T) == some (.type "type")) = true then PySem.W.subIn K (.ref S) (.ref T) else none) else none) = some true
  rw [if_pos e1, if_pos e2]
  exact h4
end Sg

set_option Elab.async false
set_option linter.all false
set_option maxRecDepth 100000
namespace Sg
open PySem PySem.Spec PyProof.Rows L2
def top (i : Nat) : Stmt := PySem.Challenge.pw_spindlegate_k09_letters_on_their_way.main.body.getD i (.Pass ⟨0, 0, 0, 0⟩)
abbrev cP (i : Nat) : Stmt := inClass (top 1) i
abbrev sCell : Stmt := top 3
abbrev sDigits : Stmt := top 4
abbrev sMany : Stmt := top 5
abbrev sAct : Stmt := top 6
abbrev sLaw : Stmt := top 7
structure Def (P : Program) (wd : World) (K : PySem.W.Frag) (mg : Str → Option Value) (base : Heap) (CX : CXT) (x : Str) (k : Nat) (ps : List Str) (sp : Sp) (f : Addr) (fd : FuncData) : Prop where
  ok : FnOk P wd K mg base CX k f fd ps sp
  bd : Binds K fd ps []
  kp : PySem.W.keepIn K (.ref f) = true
  mg : mg x = some (.ref f)
/-- a method, ready to be called -/
structure Mth (P : Program) (wd : World) (K : PySem.W.Frag) (mg : Str → Option Value) (base : Heap) (CX : CXT) (C : Addr) (x : Str) (k : Nat) (ps : List Str) (sp : Sp) (f : Addr) (fd : FuncData) : Prop where
  ok : FnOk P wd K mg base CX k f fd ps sp
  bd : Binds K fd ps []
  me : Meth K C x f
theorem nil_ {σ : L2.St} {H : Hp} {Q : List V → Hp → Prop} (h : Q [] H) : tNil σ H Q := h
theorem tc_ {σ : L2.St} {H : Hp} {v : V} {Q : List V → Hp → Prop} (h : Q [v] H) : tCons (tC v) tNil σ H Q := h
theorem lk_here {k : Str} {v : V} {r : List (Str × V)} : List.lookup k ((k, v) :: r) = some v := by
  have e : (k == k) = true := beq_self_eq_true k
  simp only [List.lookup, e]
theorem lk_past {k g : Str} {v : V} {r : List (Str × V)} (h : (k == g) = false) : List.lookup k ((g, v) :: r) = List.lookup k r := by
  simp only [List.lookup, h]
theorem put_here {f : Str} {v x : V} {r : List (Str × V)} : putF f v ((f, x) :: r) = (f, v) :: r := if_pos rfl
theorem put_past {f g : Str} {v x : V} {r : List (Str × V)} (h : ¬ g = f) : putF f v ((g, x) :: r) = (g, x) :: putF f v r := if_neg h
def Off (xs : List Addr) (H H' : Hp) : Prop := ∀ b o, H b = some o → b ∉ xs → H' b = some o
theorem Off.refl {xs : List Addr} (H : Hp) : Off xs H H := fun _ _ h _ => h
theorem Off.trans {xs : List Addr} {H H1 H2 : Hp} (a : Off xs H H1) (b : Off xs H1 H2) : Off xs H H2 := fun x o h n => b _ _ (a _ _ h n) n
theorem Off.of {xs : List Addr} {H H' : Hp} (s : Same H H') : Off xs H H' := fun _ _ h _ => s _ _ h
theorem Off.upd {xs : List Addr} {H : Hp} {p : Addr} {o : HO} (h : p ∈ xs) : Off xs H (upd H p o) := fun b u e n => by
  rw [upd_ne (fun (z : b = p) => n (by rw [z]; exact h))]; exact e
theorem str_eqT {x : Str} : decide (V.str x = V.str x) = true := decide_eq_true rfl
theorem str_eqF {x y : Str} (h : ¬ x = y) : decide (V.str x = V.str y) = false := decide_eq_false (fun z => h (by cases z; rfl))
structure BB (mg : Str → Option Value) : Prop where
  len : mg "len" = none
  int : mg "int" = none
  list : mg "list" = none
  range : mg "range" = none
  min : mg "min" = none
  isi : mg "isinstance" = none
  bool : mg "bool" = none
/-! ### the path -/
def pf (up : Bool) (h s : Addr) : List (Str × V) := [("up", .bl up), ("_to_host", .ref h), ("_to_subsystem", .ref s)]
section
variable {up : Bool} {h s : Addr}
theorem pf_up : (pf up h s).lookup ("up" : Str) = some (.bl up) := lk_here
theorem pf_h : (pf up h s).lookup ("_to_host" : Str) = some (.ref h) := (lk_past (by decide +kernel)).trans lk_here
theorem pf_s : (pf up h s).lookup ("_to_subsystem" : Str) = some (.ref s) := (lk_past (by decide +kernel)).trans ((lk_past (by decide +kernel)).trans lk_here)
theorem pf_no {m : Str} (q : [("up" : Str), "_to_host", "_to_subsystem"].all (fun g => !(m == g)) = true) : (pf up h s).lookup m = Option.none := by
  simp only [List.all_cons, List.all_nil, Bool.and_true, Bool.and_eq_true, Bool.not_eq_true'] at q
  obtain ⟨h1, h2, h3⟩ := q
  exact (lk_past h1).trans ((lk_past h2).trans ((lk_past h3).trans rfl))
theorem pf_put {b : Bool} : putF "up" (.bl b) (pf up h s) = pf b h s := put_here
theorem pf_new : putF "_to_subsystem" (.ref s) (putF "_to_host" (.ref h) (putF "up" (.bl up) [])) = pf up h s := by
  have a1 : putF "up" (V.bl up) [] = [(("up" : Str), V.bl up)] := rfl
  have a2 : putF "_to_host" (V.ref h) [(("up" : Str), V.bl up)] = [(("up" : Str), V.bl up), (("_to_host" : Str), V.ref h)] := (put_past (by decide +kernel)).trans rfl
  rw [a1, a2]
  exact (put_past (by decide +kernel)).trans (congrArg _ ((put_past (by decide +kernel)).trans rfl))
end
/-- what the top has written of the class -/
structure PT9 (K : PySem.W.Frag) (mg : Str → Option Value) (C : Addr) : Prop where
  cl : Cls K C
  n1 : NoAttr K C "up"
  n2 : NoAttr K C "_to_host"
  n3 : NoAttr K C "_to_subsystem"
  gC : mg "Path" = some (.ref C)
def PathAt (C : Addr) (H : Hp) (p : Addr) (up : Bool) (h s : Addr) : Prop := ∃ dx, H p = some (.ins C dx (pf up h s))
def dirA (b : Bool) (h s : Addr) : Addr := if b then h else s
end Sg

set_option Elab.async false
set_option linter.all false
set_option maxRecDepth 100000
set_option maxHeartbeats 4000000
namespace Sg
open PySem PySem.Spec PyProof.Rows L2
def spDir (C : Addr) : Sp := fun vs H Q _ => ∃ p up h s b, vs = [.ref p, .bl b] ∧ PathAt C H p up h s ∧ Q (.ref (dirA b h s)) H
def spInit (C : Addr) : Sp := fun vs H Q _ => ∃ p dx, vs = [.ref p] ∧ H p = some (.ins C dx []) ∧ ∀ h s H', PathAt C H' p true h s → H' h = some (.lst []) → H' s = some (.lst []) → H h = none → H s = none → h ≠ s → Off [p] H H' → Q .non H'
def spSend (C : Addr) : Sp := fun vs H Q _ => ∃ p up h s b x xs, vs = [.ref p, x, .bl b] ∧ PathAt C H p up h s ∧ H (dirA b h s) = some (.lst xs) ∧ xs.length < 1000 ∧ Q .non (upd H (dirA b h s) (.lst (xs ++ [x])))
def spLet (C : Addr) : Sp := fun vs H Q _ => ∃ p up h s b xs, vs = [.ref p, .bl b] ∧ PathAt C H p up h s ∧ H (dirA b h s) = some (.lst xs) ∧ ∀ l, H l = none → Q (.ref l) (upd H l (.lst xs))
def spDel (C : Addr) : Sp := fun vs H Q _ => ∃ p up h s b xs i, vs = [.ref p, .int i, .bl b] ∧ PathAt C H p up h s ∧ H (dirA b h s) = some (.lst xs) ∧ xs.length < 1000 ∧
  ((up = false ∨ xs = []) → Q .non H) ∧ (up = true → ∀ k y, i % (xs.length : Int) = ((k : Nat) : Int) → xs[k]? = some y → Q y (upd H (dirA b h s) (.lst (xs.eraseIdx k))))
def spDrop (C : Addr) : Sp := fun vs H Q _ => ∃ p up h s b xs i, vs = [.ref p, .int i, .bl b] ∧ PathAt C H p up h s ∧ H (dirA b h s) = some (.lst xs) ∧ xs.length < 1000 ∧
  (xs = [] → Q (.bl false) H) ∧ (∀ k y, i % (xs.length : Int) = ((k : Nat) : Int) → xs[k]? = some y → Q (.bl true) (upd H (dirA b h s) (.lst (xs.eraseIdx k))))
def spDbl (C : Addr) : Sp := fun vs H Q _ => ∃ p up h s b xs i, vs = [.ref p, .int i, .bl b] ∧ PathAt C H p up h s ∧ H (dirA b h s) = some (.lst xs) ∧ xs.length < 1000 ∧
  (xs = [] → Q (.bl false) H) ∧ (∀ k y, i % (xs.length : Int) = ((k : Nat) : Int) → xs[k]? = some y → Q (.bl true) (upd H (dirA b h s) (.lst (xs ++ [y]))))
def spUp (C : Addr) : Sp := fun vs H Q _ => ∃ p up h s b dx, vs = [.ref p, .bl b] ∧ H p = some (.ins C dx (pf up h s)) ∧ Q .non (upd H p (.ins C dx (pf b h s)))
/-- the place modulo the length -/
theorem mod_place {i : Int} {n : Nat} (h : 0 < n) : ∃ k : Nat, i % (n : Int) = (k : Int) ∧ k < n := by
  have h1 := Int.emod_nonneg i (show (n : Int) ≠ 0 by omega)
  have h2 := Int.emod_lt_of_pos i (show (0 : Int) < (n : Int) by omega)
  exact ⟨(i % (n : Int)).toNat, by omega, by omega⟩
theorem seq_at {k n : Nat} (h : k < n) : seqIndex? ((k : Nat) : Int) n = some k := by
  unfold seqIndex?
  simp
  omega
section
variable {P : Program} {wd : World} {K : PySem.W.Frag} {mg : Str → Option Value} {base : Heap} {f fDr C : Addr} {fd fdDr : FuncData}
theorem scDir : FnScope ["self", "to_host"] ["self", "to_host"] (defScope (cP 7)) := ⟨rfl, rfl, rfl, by decide +kernel, rfl, by decide +kernel, by decide +kernel⟩
theorem ok_dir (F : Fun K "_direction" "Path._direction" (cP 7) f fd) (T : PT9 K mg C) : FnOk P wd K mg base CX0 1 f fd ["self", "to_host"] (spDir C) := by
  refine F.ok scDir (fun vs H Q E h => ?_) (fun cdv A outer s H vs Q E hr h => ?_)
  · obtain ⟨p, up, h, s, b, rfl, _⟩ := h
    rfl
  · obtain ⟨p, up, h, s, b, rfl, ⟨dx, hp⟩, q⟩ := h
    refine ⟨_, (pss_one (ps_ret (pe_ifExp (pt_val (pv 1)) (pe_fld (pv 0) rfl) (pe_fld (pv 0) rfl)))), ?_⟩
    refine ⟨_, rfl, b, rfl, ?_⟩
    cases b with
    | true => exact iteT ⟨_, rfl, p, C, dx, _, _, rfl, hp, T.cl, T.n2, pf_h, q⟩
    | false => exact iteF ⟨_, rfl, p, C, dx, _, _, rfl, hp, T.cl, T.n3, pf_s, q⟩
theorem scSend : FnScope ["self", "letter", "to_host"] ["self", "letter", "to_host"] (defScope (cP 1)) := ⟨rfl, rfl, rfl, by decide +kernel, rfl, by decide +kernel, by decide +kernel⟩
theorem ok_send (F : Fun K "send" "Path.send" (cP 1) f fd) (T : PT9 K mg C) (Gd : Mth P wd K mg base CX0 C "_direction" 1 ["self", "to_host"] (spDir C) fDr fdDr) : FnOk P wd K mg base CX0 2 f fd ["self", "letter", "to_host"] (spSend C) := by
  refine F.ok scSend (fun vs H Q E h => ?_) (fun cdv A outer s H vs Q E hr h => ?_)
  · obtain ⟨p, up, h, s, b, x, xs, rfl, _⟩ := h
    rfl
  · obtain ⟨p, up, h, s, b, x, xs, rfl, ⟨dx, hp⟩, hl, hn, q⟩ := h
    refine ⟨_, (pss_one (ps_expr (pe_bm PySem.F.plainAttrs_list PySem.F.slot_list_append PySem.F.type_list_append mt_append (pe_meth (pv 0) T.cl Gd.me Gd.ok hr Gd.bd .nil pass0 (pa_cons (pv 2) pa_nil)) (pa_cons (pv 1) pa_nil)))), ?_⟩
    refine ⟨_, rfl, p, dx, _, rfl, hp, pf_no (by decide +kernel), _, rfl, p, up, h, s, b, rfl, ⟨dx, hp⟩, ?_⟩
    exact ⟨.inl ⟨rfl, _, SqL.of hl⟩, _, rfl, _, _, _, rfl, rfl, hl, small1000 (by omega), q⟩
theorem scLet : FnScope ["self", "to_host"] ["self", "to_host"] (defScope (cP 2)) := ⟨rfl, rfl, rfl, by decide +kernel, rfl, by decide +kernel, by decide +kernel⟩
theorem ok_let (F : Fun K "letters" "Path.letters" (cP 2) f fd) (T : PT9 K mg C) (B : BB mg) (Gd : Mth P wd K mg base CX0 C "_direction" 1 ["self", "to_host"] (spDir C) fDr fdDr) : FnOk P wd K mg base CX0 2 f fd ["self", "to_host"] (spLet C) := by
  refine F.ok scLet (fun vs H Q E h => ?_) (fun cdv A outer s H vs Q E hr h => ?_)
  · obtain ⟨p, up, h, s, b, xs, rfl, _⟩ := h
    rfl
  · obtain ⟨p, up, h, s, b, xs, rfl, ⟨dx, hp⟩, hl, q⟩ := h
    refine ⟨_, (pss_one (ps_ret (pe_callTy call_list_of (by rfl) B.list (by decide +kernel) (pa_cons (pe_meth (pv 0) T.cl Gd.me Gd.ok hr Gd.bd .nil pass0 (pa_cons (pv 1) pa_nil)) pa_nil)))), ?_⟩
    refine ⟨_, rfl, p, dx, _, rfl, hp, pf_no (by decide +kernel), _, rfl, p, up, h, s, b, rfl, ⟨dx, hp⟩, ?_⟩
    exact ⟨_, _, rfl, .inl (SqL.of hl), q⟩
theorem scDel : FnScope ["self", "index", "to_host", "letters"] ["self", "index", "to_host"] (defScope (cP 3)) := ⟨rfl, rfl, rfl, by decide +kernel, rfl, by decide +kernel, by decide +kernel⟩
theorem ok_del (F : Fun K "deliver" "Path.deliver" (cP 3) f fd) (T : PT9 K mg C) (B : BB mg) (Gd : Mth P wd K mg base CX0 C "_direction" 1 ["self", "to_host"] (spDir C) fDr fdDr) : FnOk P wd K mg base CX0 2 f fd ["self", "index", "to_host"] (spDel C) := by
  refine F.ok scDel (fun vs H Q E h => ?_) (fun cdv A outer s H vs Q E hr h => ?_)
  · obtain ⟨p, up, h, s, b, xs, i, rfl, _⟩ := h
    rfl
  · obtain ⟨p, up, h, s, b, xs, i, rfl, ⟨dx, hp⟩, hl, hn, q1, q2⟩ := h
    refine ⟨_, (pss_cons (ps_set (i := 3) scDel.nd rfl (Or.inl rfl) (pe_meth (pv 0) T.cl Gd.me Gd.ok hr Gd.bd .nil pass0 (pa_cons (pv 2) pa_nil)))
      (pss_cons (ps_if (PW.pt (pw_or (pt_not (pt_val (pe_fld (pv 0) rfl))) (pw_or1 (pt_not (pt_truth (pv 3) (by intro _; rfl))))))
      (pss_one (ps_ret pe_non)) pss_nil)
      (pss_one (ps_ret (pe_bm PySem.F.plainAttrs_list PySem.F.slot_list_pop PySem.F.type_list_pop mt_popAt (pv 3) (pa_cons (pe_op op_mod (pv 1) (pe_callB call_len_seq (by rfl) B.len PySem.boot_len (pa_cons (pv 3) pa_nil))) pa_nil)))))), ?_⟩
    refine ⟨_, rfl, p, dx, _, rfl, hp, pf_no (by decide +kernel), _, rfl, p, up, h, s, b, rfl, ⟨dx, hp⟩, ?_⟩
    refine ⟨_, rfl, p, C, dx, _, _, rfl, hp, T.cl, T.n1, pf_up, up, rfl, ?_⟩
    cases up with
    | false => exact iteT (iteT (q1 (.inl rfl)))
    | true =>
      refine iteF ⟨_, rfl, !xs.isEmpty, .inl ⟨xs, SqL.of hl, rfl⟩, ?_⟩
      cases xs with
      | nil => exact iteT (q1 (.inr rfl))
      | cons y0 ys =>
        refine iteF ?_
        obtain ⟨k, ek, hk⟩ := mod_place (i := i) (n := (y0 :: ys).length) (by simp)
        have hy : (y0 :: ys)[k]? = some (y0 :: ys)[k] := List.getElem?_eq_getElem hk
        refine ⟨_, rfl, .inl ⟨rfl, _, SqL.of hl⟩, _, rfl, _, rfl, _, _, rfl, .inl (SqL.of hl), _, _, rfl, rfl, (by simp only [List.length_cons]; omega), ?_⟩
        refine nil_ ⟨_, _, _, k, _, rfl, rfl, hl, by omega, by simp only [List.length_cons] at hk hn; omega, ?_, hy, q2 rfl k _ ek hy⟩
        rw [ek]; exact seq_at hk
theorem scDrop : FnScope ["self", "index", "to_host", "letters"] ["self", "index", "to_host"] (defScope (cP 4)) := ⟨rfl, rfl, rfl, by decide +kernel, rfl, by decide +kernel, by decide +kernel⟩
theorem ok_drop (F : Fun K "drop" "Path.drop" (cP 4) f fd) (T : PT9 K mg C) (B : BB mg) (Gd : Mth P wd K mg base CX0 C "_direction" 1 ["self", "to_host"] (spDir C) fDr fdDr) : FnOk P wd K mg base CX0 2 f fd ["self", "index", "to_host"] (spDrop C) := by
  refine F.ok scDrop (fun vs H Q E h => ?_) (fun cdv A outer s H vs Q E hr h => ?_)
  · obtain ⟨p, up, h, s, b, xs, i, rfl, _⟩ := h
    rfl
  · obtain ⟨p, up, h, s, b, xs, i, rfl, ⟨dx, hp⟩, hl, hn, q1, q2⟩ := h
    refine ⟨_, (pss_cons (ps_set (i := 3) scDrop.nd rfl (Or.inl rfl) (pe_meth (pv 0) T.cl Gd.me Gd.ok hr Gd.bd .nil pass0 (pa_cons (pv 2) pa_nil)))
      (pss_cons (ps_if (pt_not (pt_truth (pv 3) (by intro _; rfl)))
      (pss_one (ps_ret pe_bl)) pss_nil)
      (pss_cons (ps_expr (pe_bm PySem.F.plainAttrs_list PySem.F.slot_list_pop PySem.F.type_list_pop mt_popAt (pv 3) (pa_cons (pe_op op_mod (pv 1) (pe_callB call_len_seq (by rfl) B.len PySem.boot_len (pa_cons (pv 3) pa_nil))) pa_nil)))
      (pss_one (ps_ret pe_bl))))), ?_⟩
    refine ⟨_, rfl, p, dx, _, rfl, hp, pf_no (by decide +kernel), _, rfl, p, up, h, s, b, rfl, ⟨dx, hp⟩, ?_⟩
    refine ⟨_, rfl, !xs.isEmpty, .inl ⟨xs, SqL.of hl, rfl⟩, ?_⟩
    cases xs with
    | nil => exact iteT (q1 rfl)
    | cons y0 ys =>
      refine iteF ?_
      obtain ⟨k, ek, hk⟩ := mod_place (i := i) (n := (y0 :: ys).length) (by simp)
      have hy : (y0 :: ys)[k]? = some (y0 :: ys)[k] := List.getElem?_eq_getElem hk
      refine ⟨_, rfl, .inl ⟨rfl, _, SqL.of hl⟩, _, rfl, _, rfl, _, _, rfl, .inl (SqL.of hl), _, _, rfl, rfl, (by simp only [List.length_cons]; omega), ?_⟩
      refine nil_ ⟨_, _, _, k, _, rfl, rfl, hl, by omega, by simp only [List.length_cons] at hk hn; omega, ?_, hy, q2 k _ ek hy⟩
      rw [ek]; exact seq_at hk
theorem scDbl : FnScope ["self", "index", "to_host", "letters"] ["self", "index", "to_host"] (defScope (cP 5)) := ⟨rfl, rfl, rfl, by decide +kernel, rfl, by decide +kernel, by decide +kernel⟩
theorem ok_dbl (F : Fun K "double" "Path.double" (cP 5) f fd) (T : PT9 K mg C) (B : BB mg) (Gd : Mth P wd K mg base CX0 C "_direction" 1 ["self", "to_host"] (spDir C) fDr fdDr) : FnOk P wd K mg base CX0 2 f fd ["self", "index", "to_host"] (spDbl C) := by
  refine F.ok scDbl (fun vs H Q E h => ?_) (fun cdv A outer s H vs Q E hr h => ?_)
  · obtain ⟨p, up, h, s, b, xs, i, rfl, _⟩ := h
    rfl
  · obtain ⟨p, up, h, s, b, xs, i, rfl, ⟨dx, hp⟩, hl, hn, q1, q2⟩ := h
    refine ⟨_, (pss_cons (ps_set (i := 3) scDbl.nd rfl (Or.inl rfl) (pe_meth (pv 0) T.cl Gd.me Gd.ok hr Gd.bd .nil pass0 (pa_cons (pv 2) pa_nil)))
      (pss_cons (ps_if (pt_not (pt_truth (pv 3) (by intro _; rfl)))
      (pss_one (ps_ret pe_bl)) pss_nil)
      (pss_cons (ps_expr (pe_bm PySem.F.plainAttrs_list PySem.F.slot_list_append PySem.F.type_list_append mt_append (pv 3) (pa_cons (pe_ix ix_list (pv 3) (pe_op op_mod (pv 1) (pe_callB call_len_seq (by rfl) B.len PySem.boot_len (pa_cons (pv 3) pa_nil))) (fun _ _ => rfl)) pa_nil)))
      (pss_one (ps_ret pe_bl))))), ?_⟩
    refine ⟨_, rfl, p, dx, _, rfl, hp, pf_no (by decide +kernel), _, rfl, p, up, h, s, b, rfl, ⟨dx, hp⟩, ?_⟩
    refine ⟨_, rfl, !xs.isEmpty, .inl ⟨xs, SqL.of hl, rfl⟩, ?_⟩
    cases xs with
    | nil => exact iteT (q1 rfl)
    | cons y0 ys =>
      refine iteF ?_
      obtain ⟨k, ek, hk⟩ := mod_place (i := i) (n := (y0 :: ys).length) (by simp)
      have hy : (y0 :: ys)[k]? = some (y0 :: ys)[k] := List.getElem?_eq_getElem hk
      refine ⟨_, rfl, .inl ⟨rfl, _, SqL.of hl⟩, _, rfl, _, rfl, _, rfl, _, _, rfl, .inl (SqL.of hl), _, _, rfl, rfl, (by simp only [List.length_cons]; omega), ?_⟩
      refine ⟨_, _, _, _, rfl, rfl, SqL.of hl, (by rw [ek]; exact atI_nat hy), ?_⟩
      exact nil_ ⟨_, _, _, rfl, rfl, hl, small1000 (by omega), q2 k _ ek hy⟩
theorem scUp : FnScope ["self", "up"] ["self", "up"] (defScope (cP 6)) := ⟨rfl, rfl, rfl, by decide +kernel, rfl, by decide +kernel, by decide +kernel⟩
theorem ok_up (F : Fun K "set_up" "Path.set_up" (cP 6) f fd) (T : PT9 K mg C) : FnOk P wd K mg base CX0 1 f fd ["self", "up"] (spUp C) := by
  refine F.ok scUp (fun vs H Q E h => ?_) (fun cdv A outer s H vs Q E hr h => ?_)
  · obtain ⟨p, up, h, s, b, dx, rfl, _⟩ := h
    rfl
  · obtain ⟨p, up, h, s, b, dx, rfl, hp, q⟩ := h
    refine ⟨_, (pss_one (ps_fld (pv 0) (pv 1) rfl)), ?_⟩
    refine ⟨_, rfl, _, rfl, p, C, dx, _, rfl, hp, T.cl, T.n1, (by show 3 < 1000; decide), ?_⟩
    rw [pf_put]
    exact q
theorem scInit : FnScope ["self"] ["self"] (defScope (cP 0)) := ⟨rfl, rfl, rfl, by decide +kernel, rfl, by decide +kernel, by decide +kernel⟩
theorem ok_init (F : Fun K "__init__" "Path.__init__" (cP 0) f fd) (T : PT9 K mg C) : FnOk P wd K mg base CX0 1 f fd ["self"] (spInit C) := by
  refine F.ok scInit (fun vs H Q E h => ?_) (fun cdv A outer s H vs Q E hr h => ?_)
  · obtain ⟨p, dx, rfl, _⟩ := h
    rfl
  · obtain ⟨p, dx, rfl, hp, q⟩ := h
    refine ⟨_, (pss_cons (ps_fld (pv 0) pe_bl rfl)
      (pss_cons (ps_fld (pv 0) (pe_lst pa_nil) rfl)
      (pss_one (ps_fld (pv 0) (pe_lst pa_nil) rfl)))), ?_⟩
    refine ⟨_, rfl, p, C, dx, _, rfl, hp, T.cl, T.n1, (by show 0 < 1000; decide), ?_⟩
    generalize hH1 : upd H p (.ins C dx (putF "up" (.bl true) [])) = H1
    have h1 : H1 p = some (.ins C dx (putF "up" (.bl true) [])) := by rw [← hH1, upd_same]
    refine ⟨by show 0 ≤ sizeLine; decide, fun a ha => ?_⟩
    have npa := ne_of_none h1 ha
    refine ⟨_, rfl, p, C, dx, _, rfl, (by rw [upd_ne npa]; exact h1), T.cl, T.n2, (by show 1 < 1000; decide), ?_⟩
    generalize hH2 : upd (upd H1 a (.lst [])) p (.ins C dx (putF "_to_host" (.ref a) (putF "up" (.bl true) []))) = H2
    have h2 : H2 p = some (.ins C dx (putF "_to_host" (.ref a) (putF "up" (.bl true) []))) := by rw [← hH2, upd_same]
    have h2a : H2 a = some (.lst []) := by rw [← hH2, upd_ne npa.symm, upd_same]
    refine ⟨by show 0 ≤ sizeLine; decide, fun c hc => ?_⟩
    have npc := ne_of_none h2 hc
    have nac := ne_of_none h2a hc
    refine ⟨_, rfl, p, C, dx, _, rfl, (by rw [upd_ne npc]; exact h2), T.cl, T.n3, (by show 2 < 1000; decide), ?_⟩
    rw [pf_new]
    have hHa : H a = none := by rw [← hH1, upd_ne npa.symm] at ha; exact ha
    have hHc : H c = none := by rw [← hH2, upd_ne npc.symm, upd_ne nac.symm, ← hH1, upd_ne npc.symm] at hc; exact hc
    refine q a c _ ⟨dx, upd_same⟩ ?_ ?_ hHa hHc nac ?_
    · rw [upd_ne npa.symm, upd_ne nac]; exact h2a
    · rw [upd_ne npc.symm, upd_same]
    · intro b o hb nb
      have nbp : b ≠ p := by simpa using nb
      have nba := ne_of_none hb hHa
      have nbc := ne_of_none hb hHc
      rw [upd_ne nbp, upd_ne nbc, ← hH2, upd_ne nbp, upd_ne nba, ← hH1, upd_ne nbp]; exact hb
end
end Sg

set_option Elab.async false
set_option linter.all false
set_option maxRecDepth 100000
set_option maxHeartbeats 4000000
namespace Sg
open PySem PySem.Spec PyProof.Rows L2
/-! ### pages, rows of pages, grids of rows -/
def flatC : V → Bool
  | .non => true
  | .bl _ => true
  | .int _ => true
  | .str x => PyData.strOk x
  | _ => false
def dFlat : V → PyData
  | .bl b => .bool b
  | .int i => .int i
  | .str x => .str x
  | _ => .none
theorem dFlat_dp {K : PySem.W.Frag} {H : Hp} : ∀ {v : V}, flatC v = true → Dp K H v (dFlat v) ∧ (dFlat v).canLay0 = true ∧ (dFlat v).depth = 0
  | .non, _ => ⟨.non, by simp [dFlat, PyData.canLay0], by simp [dFlat, PyData.depth]⟩
  | .bl b, _ => ⟨.bl b, by simp [dFlat, PyData.canLay0], by simp [dFlat, PyData.depth]⟩
  | .int i, _ => ⟨.int i, by simp [dFlat, PyData.canLay0], by simp [dFlat, PyData.depth]⟩
  | .str x, h => ⟨.str x, by simpa [dFlat, PyData.canLay0, flatC] using h, by simp [dFlat, PyData.depth]⟩
  | .byt _, h => by simp [flatC] at h
  | .flt _, h => by simp [flatC] at h
  | .ref _, h => by simp [flatC] at h
  | .ty _, h => by simp [flatC] at h
theorem flats_dp {K : PySem.W.Frag} {H : Hp} : ∀ {vs : List V}, vs.all flatC = true → DpAll K H vs (vs.map dFlat) ∧ PyData.canLayAll0 (vs.map dFlat) = true ∧ PyData.depthAll (vs.map dFlat) = 0
  | [], _ => ⟨.nil, by simp [PyData.canLayAll0], by simp [PyData.depthAll]⟩
  | v :: vs, h => by
    rw [List.all_cons, Bool.and_eq_true] at h
    obtain ⟨a1, a2, a3⟩ := dFlat_dp (K := K) (H := H) h.1
    obtain ⟨b1, b2, b3⟩ := flats_dp (K := K) (H := H) h.2
    refine ⟨.cons a1 b1, ?_, ?_⟩
    · simp [PyData.canLayAll0, a2, b2]
    · simp only [List.map_cons, PyData.depthAll]; omega
def torn : V := .str "torn"
/-- what a page holds that is not erased -/
def PgN (H : Hp) (v : V) : Prop := v = torn ∨ ∃ t xs, v = .ref t ∧ H t = some (.tup xs) ∧ xs.all flatC = true
theorem PgN.ne {H : Hp} {v : V} (h : PgN H v) : v ≠ .non := by
  rcases h with rfl | ⟨t, xs, rfl, _⟩ <;> (intro e; cases e)
/-- tuples stay -/
def Tups (H H' : Hp) : Prop := ∀ t xs, H t = some (.tup xs) → H' t = some (.tup xs)
theorem same_tups {H H' : Hp} (s : Same H H') : Tups H H' := fun t xs h => s _ _ h
theorem Tups.trans {H H1 H2 : Hp} (a : Tups H H1) (b : Tups H1 H2) : Tups H H2 := fun t xs h => b t xs (a t xs h)
theorem Tups.lst {H : Hp} {a : Addr} {xs : List V} {o : HO} (h : H a = some (.lst xs)) : Tups H (upd H a o) := fun t ys e => by
  rw [upd_ne (ne_of e h (by intro z; cases z))]; exact e
theorem Tups.ins {H : Hp} {a C dx : Addr} {fs : List (Str × V)} {o : HO} (h : H a = some (.ins C dx fs)) : Tups H (upd H a o) := fun t ys e => by
  rw [upd_ne (ne_of e h (by intro z; cases z))]; exact e
theorem Tups.new {H : Hp} {a : Addr} {o : HO} (h : H a = Option.none) : Tups H (upd H a o) := fun t xs e => same_new h _ _ e
theorem PgN.mono {H H' : Hp} {v : V} (s : Tups H H') (h : PgN H v) : PgN H' v := by
  rcases h with rfl | ⟨t, xs, rfl, ht, hx⟩
  · exact .inl rfl
  · exact .inr ⟨t, xs, rfl, s _ _ ht, hx⟩
/-- a page's data -/
theorem PgN.dp {K : PySem.W.Frag} {H : Hp} {v : V} (h : PgN H v) : ∃ d, Dp K H v d ∧ d.canLay0 = true ∧ d.depth ≤ 1 ∧ PyData.eqv d .none = false := by
  rcases h with rfl | ⟨t, xs, rfl, ht, hx⟩
  · exact ⟨.str "torn", .str _, by simp only [PyData.canLay0]; decide +kernel, by simp [PyData.depth], by simp [PyData.eqv]⟩
  · obtain ⟨a1, a2, a3⟩ := flats_dp (K := K) (H := H) hx
    exact ⟨.tuple (xs.map dFlat), .tup (SqT.of ht) a1, by simpa [PyData.canLay0] using a2, by simp [PyData.depth, a3], by simp [PyData.eqv]⟩
/-- the pages of a block: what is programmed, then erased ones -/
def row (vs : List V) : List V := vs ++ List.replicate (8 - vs.length) V.non
theorem row_len {vs : List V} (h : vs.length ≤ 8) : (row vs).length = 8 := by
  unfold row; rw [List.length_append, List.length_replicate]; omega
theorem row_get {vs : List V} {j : Nat} {v : V} (h : vs[j]? = some v) : (row vs)[j]? = some v := by
  unfold row
  rw [List.getElem?_append_left (List.getElem?_eq_some_iff.mp h).1]; exact h
theorem row_non {vs : List V} {j : Nat} (h : vs.length ≤ j) (h8 : j < 8) : (row vs)[j]? = some V.non := by
  unfold row
  rw [List.getElem?_append_right h, List.getElem?_replicate, if_pos (by omega)]
theorem row_set {vs : List V} {v : V} (h : vs.length < 8) : (row vs).set vs.length v = row (vs ++ [v]) := by
  unfold row
  rw [List.set_append_right _ _ (Nat.le_refl _), Nat.sub_self, List.length_append, List.append_assoc]
  congr 1
  obtain ⟨m, hm⟩ : ∃ m, 8 - vs.length = m + 1 := ⟨7 - vs.length, by omega⟩
  have h2 : 8 - (vs.length + [v].length) = m := by simp only [List.length_cons, List.length_nil]; omega
  rw [hm, h2, List.replicate_succ]
  rfl
def PgsN (H : Hp) (vs : List V) : Prop := vs.length ≤ 8 ∧ ∀ v ∈ vs, PgN H v
theorem PgsN.mono {H H' : Hp} {vs : List V} (s : Tups H H') (h : PgsN H vs) : PgsN H' vs := ⟨h.1, fun v hv => (h.2 v hv).mono s⟩
theorem pgs_dp {K : PySem.W.Frag} {H : Hp} : ∀ {vs : List V}, (∀ v ∈ vs, PgN H v) → ∃ ds, DpAll K H vs ds ∧ PyData.canLayAll0 ds = true ∧ PyData.depthAll ds ≤ 1 ∧ ds.countP (fun z => PyData.eqv z .none) = 0
  | [], _ => ⟨[], .nil, by simp [PyData.canLayAll0], by simp [PyData.depthAll], rfl⟩
  | v :: vs, h => by
    obtain ⟨d, a1, a2, a3, a4⟩ := (h v List.mem_cons_self).dp (K := K)
    obtain ⟨ds, b1, b2, b3, b4⟩ := pgs_dp (K := K) (fun v hv => h v (List.mem_cons_of_mem _ hv))
    refine ⟨d :: ds, .cons a1 b1, by simp [PyData.canLayAll0, a2, b2], ?_, ?_⟩
    · simp only [PyData.depthAll]; omega
    · rw [List.countP_cons, b4, a4]; rfl
theorem nons_dp {K : PySem.W.Frag} {H : Hp} : ∀ n : Nat, DpAll K H (List.replicate n V.non) (List.replicate n PyData.none) ∧ PyData.canLayAll0 (List.replicate n PyData.none) = true ∧ PyData.depthAll (List.replicate n PyData.none) = 0 ∧ (List.replicate n PyData.none).countP (fun z => PyData.eqv z .none) = n
  | 0 => ⟨.nil, by simp [PyData.canLayAll0], by simp [PyData.depthAll], rfl⟩
  | n + 1 => by
    obtain ⟨a, b, c, d⟩ := nons_dp (K := K) (H := H) n
    rw [List.replicate_succ, List.replicate_succ]
    refine ⟨.cons .non a, by simp [PyData.canLayAll0, PyData.canLay0, b], by simp [PyData.depthAll, PyData.depth, c], ?_⟩
    rw [List.countP_cons, d, if_pos (by simp [PyData.eqv])]
theorem dpAll_append {K : PySem.W.Frag} {H : Hp} : ∀ {xs ys : List V} {ds es : List PyData}, DpAll K H xs ds → DpAll K H ys es → DpAll K H (xs ++ ys) (ds ++ es)
  | _, _, _, _, .nil, h => h
  | _, _, _, _, .cons a b, h => .cons a (dpAll_append b h)
theorem canLay_append : ∀ {ds es : List PyData}, PyData.canLayAll0 ds = true → PyData.canLayAll0 es = true → PyData.canLayAll0 (ds ++ es) = true
  | [], _, _, h => h
  | d :: ds, es, h, h' => by
    simp only [PyData.canLayAll0, Bool.and_eq_true] at h
    simp only [List.cons_append, PyData.canLayAll0, Bool.and_eq_true]
    exact ⟨h.1, canLay_append h.2 h'⟩
theorem depth_append : ∀ {ds es : List PyData} {n : Nat}, PyData.depthAll ds ≤ n → PyData.depthAll es ≤ n → PyData.depthAll (ds ++ es) ≤ n
  | [], _, _, _, h => h
  | d :: ds, es, n, h, h' => by
    simp only [PyData.depthAll] at h
    simp only [List.cons_append, PyData.depthAll]
    have := depth_append (ds := ds) (es := es) (n := n) (by omega) h'
    omega
/-- a row's data, and how many of its pages are erased -/
theorem row_dp {K : PySem.W.Frag} {H : Hp} {vs : List V} (h : PgsN H vs) : ∃ ds, DpAll K H (row vs) ds ∧ PyData.canLayAll0 ds = true ∧ PyData.depthAll ds ≤ 1 ∧ ds.countP (fun z => PyData.eqv z .none) = 8 - vs.length := by
  obtain ⟨ds, a, b, c, d⟩ := pgs_dp (K := K) h.2
  obtain ⟨a', b', c', d'⟩ := nons_dp (K := K) (H := H) (8 - vs.length)
  refine ⟨_, dpAll_append a a', canLay_append b b', depth_append c (by omega), ?_⟩
  rw [List.countP_append, d, d']; omega
theorem shaped_of {d : PyData} (h : d.canLay0 = true) (h' : d.depth ≤ 64) : SeqAt.shaped d = true := by
  show (d.canLay0 && decide (d.depth ≤ 64)) = true
  rw [Bool.and_eq_true]; exact ⟨h, decide_eq_true h'⟩
theorem shaped_list {ds : List PyData} (h : PyData.canLayAll0 ds = true) (h' : PyData.depthAll ds ≤ 63) : SeqAt.shaped (.list ds) = true :=
  shaped_of (by simpa [PyData.canLay0] using h) (by simp only [PyData.depth]; omega)
/-! ### grids: a list at c of lists at as, whose pages are those of ps -/
structure Grid (H : Hp) (c : Addr) (as : List Addr) (ps : List (List V)) : Prop where
  ls : H c = some (.lst (as.map V.ref))
  len : as.length = ps.length
  nd : as.Nodup
  nc : c ∉ as
  rows : ∀ (i : Nat) (a : Addr) (vs : List V), as[i]? = some a → ps[i]? = some vs → H a = some (.lst (row vs))
theorem Grid.keep {H H' : Hp} {c : Addr} {as : List Addr} {ps : List (List V)} (g : Grid H c as ps) (hc : ∀ o, H c = some o → H' c = some o) (ha : ∀ a ∈ as, ∀ o, H a = some o → H' a = some o) : Grid H' c as ps :=
  ⟨hc _ g.ls, g.len, g.nd, g.nc, fun i a vs h1 h2 => ha a (List.mem_of_getElem? h1) _ (g.rows i a vs h1 h2)⟩
theorem Grid.same {H H' : Hp} {c : Addr} {as : List Addr} {ps : List (List V)} (g : Grid H c as ps) (s : Same H H') : Grid H' c as ps := g.keep (fun o h => s _ _ h) (fun a _ o h => s _ _ h)
theorem Grid.at {H : Hp} {c : Addr} {as : List Addr} {ps : List (List V)} (g : Grid H c as ps) {i : Nat} {vs : List V} (h : ps[i]? = some vs) : ∃ a, as[i]? = some a ∧ H a = some (.lst (row vs)) := by
  have hi : i < as.length := by rw [g.len]; exact (List.getElem?_eq_some_iff.mp h).1
  exact ⟨as[i], List.getElem?_eq_getElem hi, g.rows i _ vs (List.getElem?_eq_getElem hi) h⟩
theorem get_set_cases {α : Type} {l : List α} {i j : Nat} {x y : α} (h : (l.set i x)[j]? = some y) : (j = i ∧ y = x ∧ i < l.length) ∨ (j ≠ i ∧ l[j]? = some y) := by
  rw [List.getElem?_set] at h
  split at h
  · rename_i e
    split at h
    · rename_i h2
      exact .inl ⟨e.symm, (Option.some.inj h).symm, h2⟩
    · cases h
  · rename_i e
    exact .inr ⟨fun z => e z.symm, h⟩
/-- one row changed -/
theorem Grid.prog {H H' : Hp} {c : Addr} {as : List Addr} {ps : List (List V)} (g : Grid H c as ps) {i : Nat} {a : Addr} {vs : List V} (ha : as[i]? = some a) (h1 : H' a = some (.lst (row vs))) (h2 : ∀ b o, b ≠ a → H b = some o → H' b = some o) : Grid H' c as (ps.set i vs) := by
  refine ⟨h2 _ _ (fun e => g.nc (e ▸ List.mem_of_getElem? ha)) g.ls, by rw [List.length_set]; exact g.len, g.nd, g.nc, fun j b ws hb hw => ?_⟩
  rcases get_set_cases hw with ⟨rfl, rfl, _⟩ | ⟨hj, hw⟩
  · rw [ha] at hb; cases hb; exact h1
  · exact h2 _ _ (fun e => hj (nd_ix g.nd hb (by rw [e]; exact ha))) (g.rows j b ws hb hw)
/-- one row replaced by a new list -/
theorem Grid.swap {H H' : Hp} {c : Addr} {as : List Addr} {ps : List (List V)} (g : Grid H c as ps) {i : Nat} {q : Addr} {vs : List V} (hq : H q = Option.none) (h0 : H' c = some (.lst ((as.set i q).map V.ref))) (h1 : H' q = some (.lst (row vs)))
    (h2 : ∀ b ∈ as, ∀ o, H b = some o → H' b = some o) : Grid H' c (as.set i q) (ps.set i vs) := by
  have hqn : ∀ j (b : Addr), as[j]? = some b → b ≠ q := fun j b hb => by
    have hj : j < ps.length := by rw [← g.len]; exact (List.getElem?_eq_some_iff.mp hb).1
    exact ne_of_none (g.rows j b _ hb (List.getElem?_eq_getElem hj)) hq
  refine ⟨h0, by rw [List.length_set, List.length_set]; exact g.len, ?_, ?_, fun j b ws hb hw => ?_⟩
  · rw [List.nodup_iff_pairwise_ne, List.pairwise_iff_getElem]
    intro j k hj hk hlt
    rw [List.length_set] at hj hk
    rw [List.getElem_set, List.getElem_set]
    split
    · split
      · omega
      · exact (hqn k _ (List.getElem?_eq_getElem hk)).symm
    · split
      · exact hqn j _ (List.getElem?_eq_getElem hj)
      · intro e
        have := nd_ix g.nd (List.getElem?_eq_getElem hj) (by rw [e]; exact List.getElem?_eq_getElem hk)
        omega
  · intro hm
    obtain ⟨j, hj⟩ := List.getElem?_of_mem hm
    rcases get_set_cases hj with ⟨_, e, _⟩ | ⟨_, h⟩
    · exact ne_of_none g.ls hq e
    · exact g.nc (List.mem_of_getElem? h)
  · rcases get_set_cases hw with ⟨rfl, rfl, hl⟩ | ⟨hj, hw⟩
    · rcases get_set_cases hb with ⟨_, rfl, _⟩ | ⟨hne, _⟩
      · exact h1
      · exact absurd rfl hne
    · rcases get_set_cases hb with ⟨e, _, _⟩ | ⟨_, hb⟩
      · exact absurd e hj
      · exact h2 b (List.mem_of_getElem? hb) _ (g.rows j b ws hb hw)
def Pgs (H : Hp) (ps : List (List V)) : Prop := ∀ vs ∈ ps, PgsN H vs
theorem Pgs.mono {H H' : Hp} {ps : List (List V)} (s : Tups H H') (h : Pgs H ps) : Pgs H' ps := fun vs hv => (h vs hv).mono s
theorem Pgs.set {H : Hp} {ps : List (List V)} {i : Nat} {vs : List V} (h : Pgs H ps) (hv : PgsN H vs) : Pgs H (ps.set i vs) := fun ws hw => by
  rcases List.mem_or_eq_of_mem_set hw with a | a
  · exact h ws a
  · rw [a]; exact hv
/-! ### images: a list of tuples (wear, list of pages) -/
def ImgAt (H : Hp) (r : Addr) (ws : List Int) (ps : List (List V)) : Prop := ∃ tr : List Addr, H r = some (.lst (tr.map V.ref)) ∧ tr.length = ps.length ∧
  ∀ (i : Nat) (t : Addr), tr[i]? = some t → ∃ (wv : Int) (c : Addr) (vs : List V), ws[i]? = some wv ∧ ps[i]? = some vs ∧ H t = some (.tup [.int wv, .ref c]) ∧ H c = some (.lst (row vs))
theorem img_dps {K : PySem.W.Frag} {H : Hp} : ∀ {ws : List Int} {ps : List (List V)}, Pgs H ps → ws.length = ps.length → ∃ ds, PyData.canLayAll0 ds = true ∧ PyData.depthAll ds ≤ 3 ∧ ∀ tr : List Addr, tr.length = ps.length →
    (∀ (i : Nat) (t : Addr), tr[i]? = some t → ∃ (wv : Int) (c : Addr) (vs : List V), ws[i]? = some wv ∧ ps[i]? = some vs ∧ H t = some (.tup [.int wv, .ref c]) ∧ H c = some (.lst (row vs))) → DpAll K H (tr.map V.ref) ds
  | _, [], _, _ => ⟨[], by simp [PyData.canLayAll0], by simp [PyData.depthAll], fun tr h _ => by
      cases tr with
      | nil => exact .nil
      | cons t tr => simp at h⟩
  | [], _ :: _, _, h => by simp at h
  | wv :: ws, vs :: ps, hp, hl => by
    obtain ⟨rd, r1, r2, r3, _⟩ := row_dp (K := K) (hp vs List.mem_cons_self)
    obtain ⟨ds, a, b, k⟩ := img_dps (K := K) (H := H) (ws := ws) (ps := ps) (fun u hu => hp u (List.mem_cons_of_mem _ hu)) (by simpa using hl)
    refine ⟨.tuple [.int wv, .list rd] :: ds, ?_, ?_, fun tr h1 h2 => ?_⟩
    · simp [PyData.canLayAll0, PyData.canLay0, r2, a]
    · simp only [PyData.depthAll, PyData.depth]; omega
    · cases tr with
      | nil => simp at h1
      | cons t tr =>
        obtain ⟨wv', c, vs', e1, e2, h3, h4⟩ := h2 0 t rfl
        have e1' : wv = wv' := by simpa using e1
        have e2' : vs = vs' := by simpa using e2
        subst e1' e2'
        refine .cons (.tup (SqT.of h3) (.cons (.int _) (.cons (.lst (SqL.of h4) r1) .nil))) (k tr (by simpa using h1) fun i t ht => ?_)
        obtain ⟨w2, c2, v2, f1, f2, f3, f4⟩ := h2 (i + 1) t (by simpa using ht)
        exact ⟨w2, c2, v2, by simpa using f1, by simpa using f2, f3, f4⟩
theorem img_dp {K : PySem.W.Frag} {H : Hp} {ws : List Int} {ps : List (List V)} (hp : Pgs H ps) (hl : ws.length = ps.length) : ∃ d, SeqAt.shaped d = true ∧ PyData.eqv d d = true ∧ ∀ r, ImgAt H r ws ps → Dp K H (.ref r) d := by
  obtain ⟨ds, a, b, k⟩ := img_dps (K := K) hp hl
  have hs := shaped_list a (by omega)
  refine ⟨.list ds, hs, SeqAt.eqv_refl _ (SeqAt.canLay_of_shaped hs), fun r ⟨tr, h1, h2, h3⟩ => ?_⟩
  exact .lst (SqL.of h1) (k tr h2 h3)
end Sg

set_option Elab.async false
set_option linter.all false
set_option maxRecDepth 100000
set_option maxHeartbeats 4000000
namespace Sg
open PySem PySem.Spec PyProof.Rows L2
def spCell (K : PySem.W.Frag) : Sp := fun vs H Q _ => ∃ (a : Addr) (ns : List Int) (k : Nat), vs = [.ref a, .int (k : Int)] ∧ SqL K H a (ns.map V.int) ∧ Q (.int (ns.getD k 0)) H
def spDig (K : PySem.W.Frag) : Sp := fun vs H Q _ => ∃ (c : Int) (b : Addr) (bs : List Int), vs = [.int c, .ref b] ∧ SqL K H b (bs.map V.int) ∧ bs.length ≤ 30 ∧ (∀ x ∈ bs, 0 < x ∧ x < 1073741824) ∧
  ∀ (l : Addr) (ds : List Int) H', H l = none → Same H H' → H' l = some (.lst (ds.map V.int)) → ds.length = bs.length → (∀ (i : Nat) (d b : Int), ds[i]? = some d → bs[i]? = some b → 0 ≤ d ∧ d < b) → Q (.ref l) H'
def spMany (K : PySem.W.Frag) : Sp := fun vs H Q _ => ∃ (a : Addr) (ns : List Int) (x y : Int), vs = [.ref a, .int x, .int y] ∧ SqL K H a (ns.map V.int) ∧ ∀ m, m = x ∨ m = y → Q (.int m) H
section
variable {P : Program} {wd : World} {K : PySem.W.Frag} {mg : Str → Option Value} {base : Heap} {f C : Addr} {fd : FuncData}
theorem scCell : FnScope ["script", "k"] ["script", "k"] (defScope sCell) := ⟨rfl, rfl, rfl, by decide +kernel, rfl, by decide +kernel, by decide +kernel⟩
theorem ok_cell (F : Fun K "_law_cell" "_law_cell" sCell f fd) (B : BB mg) : FnOk P wd K mg base CX0 1 f fd ["script", "k"] (spCell K) := by
  refine F.ok scCell (fun vs H Q E h => ?_) (fun cdv A outer s H vs Q E hr h => ?_)
  · obtain ⟨a, ns, k, rfl, _⟩ := h
    rfl
  · obtain ⟨a, ns, k, rfl, hS, q⟩ := h
    refine ⟨_, (pss_cons (ps_if (pt_cmpR op_lt (pv 1) (pe_callB call_len_seq (by rfl) B.len PySem.boot_len (pa_cons (pv 0) pa_nil)) (nomark _))
      (pss_one (ps_ret (pe_callTy call_int1 (by rfl) B.int (by decide +kernel) (pa_cons (pe_ix ix_list (pv 0) (pv 1) (fun _ _ => rfl)) pa_nil)))) pss_nil)
      (pss_one (ps_ret pe_int))), ?_⟩
    refine ⟨_, rfl, _, rfl, a, _, rfl, .inl hS, _, _, rfl, rfl, _, rfl, ?_⟩
    rw [List.length_map]
    by_cases hk : k < ns.length
    · rw [decide_eq_true (show (k : Int) < (ns.length : Int) by omega)]
      refine iteT ⟨_, rfl, _, rfl, a, _, _, _, rfl, rfl, hS, atI_nat (get_map (List.getElem?_eq_getElem hk)), .inl ⟨_, rfl, ?_⟩⟩
      rw [List.getD_eq_getElem?_getD, List.getElem?_eq_getElem hk] at q
      exact q
    · rw [decide_eq_false (show ¬ (k : Int) < (ns.length : Int) by omega)]
      refine iteF ?_
      rw [List.getD_eq_getElem?_getD, List.getElem?_eq_none (by omega)] at q
      exact q
theorem scMany : FnScope ["script", "few", "many"] ["script", "few", "many"] (defScope sMany) := ⟨rfl, rfl, rfl, by decide +kernel, rfl, by decide +kernel, by decide +kernel⟩
theorem ok_many (F : Fun K "_law_many" "_law_many" sMany f fd) (B : BB mg) : FnOk P wd K mg base CX0 1 f fd ["script", "few", "many"] (spMany K) := by
  refine F.ok scMany (fun vs H Q E h => ?_) (fun cdv A outer s H vs Q E hr h => ?_)
  · obtain ⟨a, ns, x, y, rfl, _⟩ := h
    rfl
  · obtain ⟨a, ns, x, y, rfl, hS, q⟩ := h
    have q1 := q x (.inl rfl)
    have q2 := q y (.inr rfl)
    refine ⟨_, (pss_cons (ps_if (PW.pt (pw_and (pt_cmpR op_gt (pe_callB call_len_seq (by rfl) B.len PySem.boot_len (pa_cons (pv 0) pa_nil)) pe_int (nomark _)) (pw_and1 (pt_cmpR op_eq (pe_op op_mod (pe_op op_fdiv (pe_callTy call_int1 (by rfl) B.int (by decide +kernel) (pa_cons (pe_ix ix_list (pv 0) pe_int (fun _ _ => rfl)) pa_nil)) pe_int) pe_int) pe_int (nomark _)))))
      (pss_one (ps_ret (pv 2))) pss_nil)
      (pss_one (ps_ret (pv 1)))), ?_⟩
    refine ⟨_, rfl, a, _, rfl, .inl hS, _, _, rfl, rfl, _, rfl, ?_⟩
    rw [List.length_map]
    by_cases hk : 0 < ns.length
    · rw [decide_eq_true (show (0 : Int) < (ns.length : Int) by omega)]
      refine iteT ⟨_, rfl, a, _, _, _, rfl, rfl, hS, atI_nat (j := 0) (get_map (List.getElem?_eq_getElem hk)), .inl ⟨_, rfl, _, _, rfl, rfl, ⟨by decide, by decide⟩, _, _, rfl, rfl, (by show (0 : Int) < 5; decide), rfl, _, rfl, ?_⟩⟩
      refine ite2 (fun _ => ⟨_, rfl, q2⟩) (fun _ => ⟨_, rfl, q1⟩)
    · rw [decide_eq_false (show ¬ (0 : Int) < (ns.length : Int) by omega)]
      exact iteF ⟨_, rfl, q1⟩
theorem scDig : FnScope ["cell", "bases", "digits", "rest", "base", "mixed"] ["cell", "bases"] (defScope sDigits) := ⟨rfl, rfl, rfl, by decide +kernel, rfl, by decide +kernel, by decide +kernel⟩
theorem dig_snoc {ds bs : List Int} {i : Nat} {d b : Int} (hl : ds.length = i) (hb : bs[i]? = some b) (h : ∀ (i : Nat) (d b : Int), ds[i]? = some d → bs[i]? = some b → 0 ≤ d ∧ d < b) (h0 : 0 ≤ d) (h1 : d < b) :
    ∀ (i : Nat) (d' b : Int), (ds ++ [d])[i]? = some d' → bs[i]? = some b → 0 ≤ d' ∧ d' < b := by
  intro j d' b' e1 e2
  by_cases hj : j < ds.length
  · rw [List.getElem?_append_left hj] at e1
    exact h j d' b' e1 e2
  · have hj' : j = ds.length := by
      have := (List.getElem?_eq_some_iff.mp e1).1
      rw [List.length_append] at this
      simp only [List.length_cons, List.length_nil] at this
      omega
    subst hj'
    rw [List.getElem?_append_right (Nat.le_refl _), Nat.sub_self] at e1
    have e3 : d = d' := by simpa using e1
    rw [hl, hb] at e2
    cases e2
    subst e3
    exact ⟨h0, h1⟩
theorem ok_dig (F : Fun K "_law_digits" "_law_digits" sDigits f fd) (B : BB mg) : FnOk P wd K mg base CX0 1 f fd ["cell", "bases"] (spDig K) := by
  refine F.ok scDig (fun vs H Q E h => ?_) (fun cdv A outer s H vs Q E hr h => ?_)
  · obtain ⟨c, b, bs, rfl, _⟩ := h
    rfl
  · obtain ⟨c, b, bs, rfl, hS, hbl, hbs, q⟩ := h
    refine ⟨_, (pss_cons (ps_set (i := 2) scDig.nd rfl (Or.inl rfl) (pe_lst pa_nil))
      (pss_cons (ps_set (i := 3) scDig.nd rfl (Or.inl rfl) (pe_callTy call_int1 (by rfl) B.int (by decide +kernel) (pa_cons (pv 0) pa_nil)))
      (pss_cons (ps_for PassesOwn.never rfl (pi_list (pv 1)) (pg_name (i := 4) scDig.nd rfl (Or.inl rfl))
      (pss_one (ps_if (pt_cmpR op_ge (pv 0) (pe_op op_pow pe_int pe_int) (nomark _))
      (pss_cons (ps_expr (pe_bm PySem.F.plainAttrs_list PySem.F.slot_list_append PySem.F.type_list_append mt_append (pv 2) (pa_cons (pe_op op_mod (pe_callTy call_int1 (by rfl) B.int (by decide +kernel) (pa_cons (pv 3) pa_nil)) (pv 4)) pa_nil)))
      (pss_one (ps_set (i := 3) scDig.nd rfl (Or.inl rfl) (pe_op op_fdiv (pv 3) (pv 4))))) (pss_cons (ps_set (i := 3) scDig.nd rfl (Or.inl rfl) (pe_op op_mod (pe_op op_add (pe_op op_add (pe_op op_mul (pe_callTy call_int1 (by rfl) B.int (by decide +kernel) (pa_cons (pv 3) pa_nil)) pe_int) (pe_op op_mul pe_int (pe_callB call_len_seq (by rfl) B.len PySem.boot_len (pa_cons (pv 2) pa_nil)))) pe_int) pe_int))
      (pss_cons (ps_set (i := 5) scDig.nd rfl (Or.inl rfl) (pe_op op_mod (pe_op op_mul (pe_callTy call_int1 (by rfl) B.int (by decide +kernel) (pa_cons (pv 3) pa_nil)) (pe_callTy call_int1 (by rfl) B.int (by decide +kernel) (pa_cons (pv 3) pa_nil))) pe_int))
      (pss_one (ps_expr (pe_bm PySem.F.plainAttrs_list PySem.F.slot_list_append PySem.F.type_list_append mt_append (pv 2) (pa_cons (pe_op op_mod (pe_op op_fdiv (pe_callTy call_int1 (by rfl) B.int (by decide +kernel) (pa_cons (pv 5) pa_nil)) pe_int) (pv 4)) pa_nil)))))))))
      (pss_one (ps_ret (pv 2)))))), ?_⟩
    refine ⟨by show 0 ≤ sizeLine; decide, fun l hl => ?_⟩
    have s1 : Same H (upd H l (.lst [])) := same_new hl
    refine ⟨_, rfl, .inl ⟨_, rfl, ?_⟩⟩
    refine ⟨_, rfl, b, rfl, ⟨_, s1.seq hS⟩, for_list (xs := bs.map V.int) (fun i σ H' => ∃ (rest : Int) (x4 x5 : Option V) (ds : List Int), σ = [some (.int c), some (.ref b), some (.ref l), some (.int rest), x4, x5] ∧ Same H H' ∧ H' l = some (.lst (ds.map V.int)) ∧ ds.length = i ∧ (∀ (i : Nat) (d b : Int), ds[i]? = some d → bs[i]? = some b → 0 ≤ d ∧ d < b)) ?_ ?_ ?_ ?_⟩
    · exact ⟨_, _, _, [], rfl, s1, upd_same, rfl, fun i d b h => by simp at h⟩
    · rintro i σ H' hi ⟨rest, x4, x5, ds, rfl, sm, _⟩
      exact sm.seq hS
    · rintro i x σ H' hx ⟨rest, x4, x5, ds, rfl, sm, hds, hlen, hd⟩
      obtain ⟨bi, hbi, rfl⟩ := map_get hx
      obtain ⟨hb0, hb1⟩ := hbs bi (List.mem_of_getElem? hbi)
      have hil : i < bs.length := (List.getElem?_eq_some_iff.mp hbi).1
      have sl : (ds.map V.int).length < sizeLine := by rw [List.length_map]; exact small1000 (by omega)
      have app : ∀ d : Int, ds.map V.int ++ [V.int d] = (ds ++ [d]).map V.int := fun d => by rw [List.map_append]; rfl
      have sm2 : ∀ o, Same H (upd H' l o) := fun o x u e => by rw [upd_ne (ne_of_none e hl)]; exact sm _ _ e
      refine ⟨_, rfl, _, _, rfl, rfl, ⟨by decide, by decide, by decide⟩, _, _, rfl, rfl, _, rfl, ?_⟩
      refine ite2 (fun _ => ?_) (fun _ => ?_)
      · refine ⟨_, rfl, .inl ⟨rfl, _, SqL.of hds⟩, _, rfl, .inl ⟨_, rfl, _, rfl, _, _, rfl, rfl, hb0, ?_⟩⟩
        refine nil_ ⟨_, _, _, rfl, rfl, hds, sl, ?_⟩
        refine ⟨_, rfl, _, rfl, _, _, rfl, rfl, ⟨hb0, hb1⟩, ?_⟩
        rw [app]
        exact ⟨_, _, _, _, rfl, sm2 _, upd_same, by rw [List.length_append, hlen]; rfl, dig_snoc hlen hbi hd (Int.emod_nonneg _ (by omega)) (Int.emod_lt_of_pos _ hb0)⟩
      · refine ⟨_, rfl, .inl ⟨_, rfl, _, _, rfl, rfl, .inr ⟨by decide, by decide⟩, _, rfl, _, _, rfl, .inl (SqL.of hds), _, _, rfl, rfl, .inl ⟨by decide, by decide⟩, _, _, rfl, rfl, _, _, rfl, rfl, _, _, rfl, rfl, (by show (0 : Int) < 2147483647; decide), ?_⟩⟩
        generalize hg : (rest * 48271 + 1009 * ((ds.map V.int).length : Int) + 12345) % 2147483647 = r2
        have hr0 : 0 ≤ r2 := by rw [← hg]; exact Int.emod_nonneg _ (by decide)
        have hr1 : r2 < 2147483647 := by rw [← hg]; exact Int.emod_lt_of_pos _ (by decide)
        refine ⟨_, rfl, .inl ⟨_, rfl, _, rfl, .inl ⟨_, rfl, _, _, rfl, rfl, .inl ⟨by omega, by omega⟩, _, _, rfl, rfl, (by show (0 : Int) < 2147483629; decide), ?_⟩⟩⟩
        refine ⟨_, rfl, .inl ⟨rfl, _, SqL.of hds⟩, _, rfl, .inl ⟨_, rfl, _, _, rfl, rfl, ⟨by decide, by decide⟩, _, rfl, _, _, rfl, rfl, hb0, ?_⟩⟩
        refine nil_ ⟨_, _, _, rfl, rfl, hds, sl, ?_⟩
        rw [app]
        exact ⟨_, _, _, _, rfl, sm2 _, upd_same, by rw [List.length_append, hlen]; rfl, dig_snoc hlen hbi hd (Int.emod_nonneg _ (by omega)) (Int.emod_lt_of_pos _ hb0)⟩
    · rintro σ H' ⟨rest, x4, x5, ds, rfl, sm, hds, hlen, hd⟩
      rw [List.length_map] at hlen
      exact ⟨_, rfl, q l ds H' hl sm hds hlen hd⟩
end
end Sg

set_option Elab.async false
set_option linter.all false
set_option maxRecDepth 100000
set_option maxHeartbeats 4000000
namespace Sg
open PySem PySem.Spec PyProof.Rows L2
def LetOk (H : Hp) (x : V) : Prop := ∃ t i j, x = .ref t ∧ H t = some (.tup [.str "do", .int i, .int j])
/-- what holds between the acts -/
structure LI (C : Addr) (H : Hp) (p h s ls l0 l1 : Addr) (up : Bool) (xs : Bool → List V) (n : Nat) : Prop where
  ob : PathAt C H p up h s
  pl : ∀ b, H (dirA b h s) = some (.lst (xs b))
  ll : ∀ b, H (dirA b l1 l0) = some (.lst (xs b))
  two : H ls = some (.lst [.ref l0, .ref l1])
  lk : ∀ b, ∀ x ∈ xs b, LetOk H x
  ln : ∀ b, (xs b).length ≤ n
  d1 : ∀ b c, dirA b h s ≠ dirA c l1 l0
  d2 : h ≠ s
  d3 : l0 ≠ l1
  d4 : ∀ b, ls ≠ dirA b h s
  d5 : ∀ b, ls ≠ dirA b l1 l0
theorem LetOk.off {H H' : Hp} {x : V} {xs : List Addr} (h : LetOk H x) (o : Off xs H H') (d : ∀ a ∈ xs, ∃ l, H a = some (.lst l)) : LetOk H' x := by
  obtain ⟨t, i, j, e, ht⟩ := h
  refine ⟨t, i, j, e, o _ _ ht fun m => ?_⟩
  obtain ⟨l, hl⟩ := d t m
  rw [ht] at hl; cases hl
theorem LI.same {C : Addr} {H H' : Hp} {p h s ls l0 l1 : Addr} {up : Bool} {xs : Bool → List V} {n : Nat} (g : LI C H p h s ls l0 l1 up xs n) (sm : Same H H') : LI C H' p h s ls l0 l1 up xs n := by
  obtain ⟨dx, hp⟩ := g.ob
  refine ⟨⟨dx, sm _ _ hp⟩, fun b => sm _ _ (g.pl b), fun b => sm _ _ (g.ll b), sm _ _ g.two, fun b x hx => ?_, g.ln, g.d1, g.d2, g.d3, g.d4, g.d5⟩
  exact (g.lk b x hx).off (Off.of (xs := []) sm) (by simp)
theorem dir_ne {h s : Addr} (d : h ≠ s) {b c : Bool} (e : ¬ c = b) : dirA c h s ≠ dirA b h s := by
  cases b <;> cases c <;> first | exact absurd rfl e | exact d | exact d.symm
def put (xs : Bool → List V) (b : Bool) (ys : List V) : Bool → List V := fun c => if c = b then ys else xs c
/-- one list of the path and the law's own one become ys -/
theorem LI.put {C : Addr} {H : Hp} {p h s ls l0 l1 : Addr} {up : Bool} {xs : Bool → List V} {n m : Nat} (g : LI C H p h s ls l0 l1 up xs n) (b : Bool) (ys : List V) (hy : ∀ x ∈ ys, LetOk H x) (hm : n ≤ m) (hl : ys.length ≤ m) :
    LI C (upd (upd H (dirA b h s) (.lst ys)) (dirA b l1 l0) (.lst ys)) p h s ls l0 l1 up (put xs b ys) m ∧ Off [h, s, l0, l1] H (upd (upd H (dirA b h s) (.lst ys)) (dirA b l1 l0) (.lst ys)) := by
  obtain ⟨dx, hp⟩ := g.ob
  have np : ∀ b, p ≠ dirA b h s := fun b => ne_of hp (g.pl b) (by intro z; cases z)
  have np2 : ∀ b, p ≠ dirA b l1 l0 := fun b => ne_of hp (g.ll b) (by intro z; cases z)
  have m1 : dirA b h s ∈ [h, s, l0, l1] := by cases b <;> simp [dirA]
  have m2 : dirA b l1 l0 ∈ [h, s, l0, l1] := by cases b <;> simp [dirA]
  have o2 : Off [h, s, l0, l1] H (upd (upd H (dirA b h s) (.lst ys)) (dirA b l1 l0) (.lst ys)) := (Off.upd m1).trans (Off.upd m2)
  have is : ∀ a ∈ [h, s, l0, l1], ∃ l, H a = some (.lst l) := by
    intro a ha
    simp only [List.mem_cons, List.not_mem_nil, or_false] at ha
    rcases ha with rfl | rfl | rfl | rfl
    · exact ⟨_, g.pl true⟩
    · exact ⟨_, g.pl false⟩
    · exact ⟨_, g.ll false⟩
    · exact ⟨_, g.ll true⟩
  have lok : ∀ c, ∀ x ∈ Sg.put xs b ys c, LetOk H x := by
    intro c x hx
    unfold Sg.put at hx
    by_cases e : c = b
    · rw [if_pos e] at hx; exact hy x hx
    · rw [if_neg e] at hx; exact g.lk c x hx
  refine ⟨⟨⟨dx, ?_⟩, fun c => ?_, fun c => ?_, ?_, fun c x hx => (lok c x hx).off o2 is, fun c => ?_, g.d1, g.d2, g.d3, g.d4, g.d5⟩, o2⟩
  · rw [upd_ne (np2 b), upd_ne (np b)]; exact hp
  · rw [upd_ne (g.d1 c b)]
    unfold Sg.put
    by_cases e : c = b
    · rw [e, upd_same, if_pos rfl]
    · rw [upd_ne (dir_ne g.d2 e), if_neg e]; exact g.pl c
  · unfold Sg.put
    by_cases e : c = b
    · rw [e, upd_same, if_pos rfl]
    · rw [upd_ne (dir_ne g.d3.symm e), upd_ne (g.d1 b c).symm, if_neg e]; exact g.ll c
  · rw [upd_ne (g.d5 b), upd_ne (g.d4 b)]; exact g.two
  · unfold Sg.put
    by_cases e : c = b
    · rw [if_pos e]; exact hl
    · rw [if_neg e]; exact Nat.le_trans (g.ln c) hm
/-- letters as data -/
theorem lets_dp {K : PySem.W.Frag} {H : Hp} : ∀ {xs : List V}, (∀ x ∈ xs, LetOk H x) → ∃ ds, DpAll K H xs ds ∧ PyData.canLayAll0 ds = true ∧ PyData.depthAll ds ≤ 1 ∧ ds.length = xs.length
  | [], _ => ⟨[], .nil, by simp [PyData.canLayAll0], by simp [PyData.depthAll], rfl⟩
  | x :: xs, h => by
    obtain ⟨ds, a, b, c, d⟩ := lets_dp (K := K) (xs := xs) fun y hy => h y (List.mem_cons_of_mem _ hy)
    obtain ⟨t, i, j, rfl, ht⟩ := h x List.mem_cons_self
    refine ⟨.tuple [.str "do", .int i, .int j] :: ds, .cons (.tup (SqT.of ht) (.cons (.str _) (.cons (.int _) (.cons (.int _) .nil)))) a, ?_, ?_, ?_⟩
    · have : PyData.strOk "do" = true := by decide +kernel
      simp [PyData.canLayAll0, PyData.canLay0, b]
      exact this
    · simp only [PyData.depthAll, PyData.depth]; omega
    · simp [d]
theorem let_dp {K : PySem.W.Frag} {H : Hp} {x : V} (h : LetOk H x) : ∃ d, Dp K H x d ∧ SeqAt.shaped d = true := by
  obtain ⟨ds, a, b, c, d⟩ := lets_dp (K := K) (H := H) (xs := [x]) (by simpa using h)
  cases a with
  | cons a1 a2 =>
    cases a2
    refine ⟨_, a1, shaped_of ?_ ?_⟩
    · simpa [PyData.canLayAll0] using b
    · simp only [PyData.depthAll] at c; omega
theorem list_dp {K : PySem.W.Frag} {H : Hp} {xs : List V} (h : ∀ x ∈ xs, LetOk H x) : ∃ ds, SeqAt.shaped (.list ds) = true ∧ ds.length = xs.length ∧ ∀ a, SqL K H a xs → Dp K H (.ref a) (.list ds) := by
  obtain ⟨ds, a, b, c, d⟩ := lets_dp (K := K) h
  exact ⟨ds, shaped_of (by simpa [PyData.canLay0] using b) (by simp only [PyData.depth]; omega), d, fun r hr => .lst hr a⟩
theorem eqv_nil {ds : List PyData} : PyData.eqv (.list ds) (.list []) = ds.isEmpty := by
  cases ds with
  | nil => simp [PyData.eqv, PyData.eqvAll]
  | cons d ds => simp [PyData.eqv, PyData.eqvAll]
end Sg

set_option Elab.async false
set_option linter.all false
set_option maxRecDepth 100000
set_option maxHeartbeats 4000000
namespace Sg
open PySem PySem.Spec PyProof.Rows L2
def spAct (C : Addr) : Sp := fun vs H Q _ => ∃ p h s ls l0 l1 dg up xs n d0 d1 d2 d3, vs = [.ref p, .ref ls, .ref dg, .bl up] ∧ LI C H p h s ls l0 l1 up xs n ∧ n < 900 ∧ H dg = some (.lst [.int d0, .int d1, .int d2, .int d3]) ∧ (d1 = 0 ∨ d1 = 1) ∧
  ∀ H' xs', LI C H' p h s ls l0 l1 up xs' (n + 1) → Off [h, s, l0, l1] H H' → Q (.bl true) H'
theorem bl_eqT {b : Bool} : decide (V.bl b = V.bl b) = true := decide_eq_true rfl
section
variable {P : Program} {wd : World} {K : PySem.W.Frag} {mg : Str → Option Value} {base : Heap} {f C f1 f2 f3 f4 : Addr} {fd fd1 fd2 fd3 fd4 : FuncData}
theorem boot_isi : bootBuiltins "isinstance" = some (.builtin "isinstance") := by decide +kernel
theorem scAct : FnScope ["path", "lists", "digits", "up", "letters", "to_host", "index", "letter", "there", "told", "due"] ["path", "lists", "digits", "up"] (defScope sAct) := ⟨rfl, rfl, rfl, by decide +kernel, rfl, by decide +kernel, by decide +kernel⟩
theorem ok_act (F : Fun K "_law_act" "_law_act" sAct f fd) (T : PT9 K mg C) (B : BB mg)
    (Se : Mth P wd K mg base CX0 C "send" 2 ["self", "letter", "to_host"] (spSend C) f1 fd1) (De : Mth P wd K mg base CX0 C "deliver" 2 ["self", "index", "to_host"] (spDel C) f2 fd2)
    (Dr : Mth P wd K mg base CX0 C "drop" 2 ["self", "index", "to_host"] (spDrop C) f3 fd3) (Db : Mth P wd K mg base CX0 C "double" 2 ["self", "index", "to_host"] (spDbl C) f4 fd4) :
    FnOk P wd K mg base CX0 3 f fd ["path", "lists", "digits", "up"] (spAct C) := by
  refine F.ok scAct (fun vs H Q E h => ?_) (fun cdv A outer s H vs Q E hr h => ?_)
  · obtain ⟨p, h, s, ls, l0, l1, dg, up, xs, n, d0, d1, d2, d3, rfl, _⟩ := h
    rfl
  · obtain ⟨p, h, s, ls, l0, l1, dg, up, xs, n, d0, d1, d2, d3, rfl, L, hn, hdg, h01, k⟩ := h
    have hr2 : Room 2 _ := hr
    refine ⟨_, (pss_cons (ps_set (i := 4) scAct.nd rfl (Or.inl rfl) (pe_ix ix_list (pv 1) (pe_ix ix_list (pv 2) pe_int (fun _ _ => rfl)) (fun _ _ => rfl)))
      (pss_cons (ps_set (i := 5) scAct.nd rfl (Or.inl rfl) (pe_cmpR op_eq (pe_ix ix_list (pv 2) pe_int (fun _ _ => rfl)) pe_int (nomark _)))
      (pss_cons (ps_set (i := 6) scAct.nd rfl (Or.inl rfl) (pe_ix ix_list (pv 2) pe_int (fun _ _ => rfl)))
      (pss_cons (ps_if (pt_cmpR op_lt (pe_ix ix_list (pv 2) pe_int (fun _ _ => rfl)) pe_int (nomark _))
      (pss_cons (ps_set (i := 7) scAct.nd rfl (Or.inl rfl) (pe_tup (pa_cons pe_str (pa_cons (pe_ix ix_list (pv 2) pe_int (fun _ _ => rfl)) (pa_cons (pe_ix ix_list (pv 2) pe_int (fun _ _ => rfl)) pa_nil)))))
      (pss_cons (ps_expr (pe_meth (pv 0) T.cl Se.me Se.ok hr2 Se.bd .nil pass0 (pa_cons (pv 7) (pa_cons (pv 5) pa_nil))))
      (pss_cons (ps_expr (pe_bm PySem.F.plainAttrs_list PySem.F.slot_list_append PySem.F.type_list_append mt_append (pv 4) (pa_cons (pv 7) pa_nil)))
      (pss_one (ps_ret pe_bl))))) pss_nil)
      (pss_cons (ps_set (i := 8) scAct.nd rfl (Or.inl rfl) (pe_cmpR (op_neD hr.units) (pv 4) (pe_lst pa_nil) (nomark _)))
      (pss_cons (ps_if (pt_cmpR op_lt (pe_ix ix_list (pv 2) pe_int (fun _ _ => rfl)) pe_int (nomark _))
      (pss_cons (ps_set (i := 9) scAct.nd rfl (Or.inl rfl) (pe_meth (pv 0) T.cl De.me De.ok hr2 De.bd .nil pass0 (pa_cons (pv 6) (pa_cons (pv 5) pa_nil))))
      (pss_cons (ps_if (PW.pt (pw_or (pt_not (pt_val (pv 8))) (pw_or1 (pt_not (pt_val (pv 3))))))
      (pss_one (ps_ret (pe_cmpR op_isN (pv 9) pe_non (nomark _)))) pss_nil)
      (pss_cons (ps_set (i := 10) scAct.nd rfl (Or.inl rfl) (pe_ix ix_list (pv 4) (pe_op op_mod (pv 6) (pe_callB call_len_seq (by rfl) B.len PySem.boot_len (pa_cons (pv 4) pa_nil))) (fun _ _ => rfl)))
      (pss_cons (ps_expr (pe_bm PySem.F.plainAttrs_list PySem.F.slot_list_pop PySem.F.type_list_pop mt_popAt (pv 4) (pa_cons (pe_op op_mod (pv 6) (pe_callB call_len_seq (by rfl) B.len PySem.boot_len (pa_cons (pv 4) pa_nil))) pa_nil)))
      (pss_one (ps_ret (pe_cmpR (op_eqD hr.units) (pv 9) (pv 10) (nomark _)))))))) pss_nil)
      (pss_cons (ps_if (pt_cmpR op_eq (pe_ix ix_list (pv 2) pe_int (fun _ _ => rfl)) pe_int (nomark _))
      (pss_cons (ps_set (i := 9) scAct.nd rfl (Or.inl rfl) (pe_meth (pv 0) T.cl Dr.me Dr.ok hr2 Dr.bd .nil pass0 (pa_cons (pv 6) (pa_cons (pv 5) pa_nil))))
      (pss_cons (ps_if (pt_val (pv 8))
      (pss_one (ps_expr (pe_bm PySem.F.plainAttrs_list PySem.F.slot_list_pop PySem.F.type_list_pop mt_popAt (pv 4) (pa_cons (pe_op op_mod (pv 6) (pe_callB call_len_seq (by rfl) B.len PySem.boot_len (pa_cons (pv 4) pa_nil))) pa_nil)))) pss_nil)
      (pss_one (ps_ret (pe_and (pe_callB call_isi (by rfl) B.isi boot_isi (pa_cons (pv 9) (pa_cons (pe_bltn (v := .ty "bool") (by rfl) B.bool boot_bool rfl) pa_nil))) (pe_one (pe_cmpR op_eq (pv 9) (pv 8) (nomark _)))))))) pss_nil)
      (pss_cons (ps_set (i := 9) scAct.nd rfl (Or.inl rfl) (pe_meth (pv 0) T.cl Db.me Db.ok hr2 Db.bd .nil pass0 (pa_cons (pv 6) (pa_cons (pv 5) pa_nil))))
      (pss_cons (ps_if (pt_val (pv 8))
      (pss_one (ps_expr (pe_bm PySem.F.plainAttrs_list PySem.F.slot_list_append PySem.F.type_list_append mt_append (pv 4) (pa_cons (pe_ix ix_list (pv 4) (pe_op op_mod (pv 6) (pe_callB call_len_seq (by rfl) B.len PySem.boot_len (pa_cons (pv 4) pa_nil))) (fun _ _ => rfl)) pa_nil)))) pss_nil)
      (pss_one (ps_ret (pe_and (pe_callB call_isi (by rfl) B.isi boot_isi (pa_cons (pv 9) (pa_cons (pe_bltn (v := .ty "bool") (by rfl) B.bool boot_bool rfl) pa_nil))) (pe_one (pe_cmpR op_eq (pv 9) (pv 8) (nomark _))))))))))))))), ?_⟩
    obtain ⟨b, hb, hb2⟩ : ∃ b : Bool, atI ([.ref l0, .ref l1] : List V) d1 = some (.ref (dirA b l1 l0)) ∧ decide (V.int d1 = V.int 1) = b := by
      rcases h01 with rfl | rfl
      · exact ⟨false, rfl, by decide⟩
      · exact ⟨true, rfl, by decide⟩
    -- letters = lists[digits[1]]; to_host = digits[1] == 1; index = digits[2]
    refine ⟨_, rfl, _, rfl, dg, _, _, _, rfl, rfl, SqL.of hdg, atI_nat (j := 1) rfl, ls, _, _, _, rfl, rfl, SqL.of L.two, hb, ?_⟩
    refine ⟨_, rfl, dg, _, _, _, rfl, rfl, SqL.of hdg, atI_nat (j := 1) rfl, rfl, ?_⟩
    rw [hb2]
    refine ⟨_, rfl, dg, _, _, _, rfl, rfl, SqL.of hdg, atI_nat (j := 2) rfl, ?_⟩
    obtain ⟨dx, hp⟩ := id L.ob
    have hpl := L.pl b
    have hll := L.ll b
    have hlen := L.ln b
    have hmap : ∀ (q : Hp → Prop), True := fun _ => trivial
    -- if digits[0] < 4
    refine ⟨_, rfl, dg, _, _, _, rfl, rfl, SqL.of hdg, atI_nat (j := 0) rfl, _, _, rfl, rfl, _, rfl, ?_⟩
    refine ite2 (fun _ => ?_) (fun _ => ?_)
    · refine ⟨_, rfl, dg, _, _, _, rfl, rfl, SqL.of hdg, atI_nat (j := 2) rfl, _, rfl, dg, _, _, _, rfl, rfl, SqL.of hdg, atI_nat (j := 3) rfl, by show 3 ≤ sizeLine; decide, fun t ht => ?_⟩
      generalize hH1 : upd H t (.tup [.str "do", .int d2, .int d3]) = H1
      have ht1 : H1 t = some (.tup [.str "do", .int d2, .int d3]) := by rw [← hH1, upd_same]
      have s1 : Same H H1 := by rw [← hH1]; exact same_new ht
      have L1 := L.same s1
      obtain ⟨dx1, hp1⟩ := id L1.ob
      refine ⟨_, rfl, p, dx1, _, rfl, hp1, pf_no (by decide +kernel), _, rfl, _, rfl, p, up, h, s, b, .ref t, xs b, rfl, ⟨dx1, hp1⟩, L1.pl b, by omega, ?_⟩
      refine ⟨_, rfl, .inl ⟨rfl, _, SqL.of (by rw [upd_ne (L1.d1 b b).symm]; exact L1.ll b)⟩, _, rfl, _, _, _, rfl, rfl, (by rw [upd_ne (L1.d1 b b).symm]; exact L1.ll b), small1000 (by omega), ?_⟩
      obtain ⟨L2, o2⟩ := L1.put b (xs b ++ [.ref t]) (fun x hx => by
        rcases List.mem_append.mp hx with hx | hx
        · exact L1.lk b x hx
        · rw [List.mem_singleton.mp hx]; exact ⟨t, _, _, rfl, ht1⟩) (Nat.le_succ n) (by rw [List.length_append]; simp only [List.length_cons, List.length_nil]; omega)
      exact k _ _ L2 ((Off.of s1).trans o2)
    -- there = letters != []
    obtain ⟨ds, sh, dl, dp⟩ := list_dp (K := K) (L.lk b)
    refine ⟨_, rfl, by show 0 ≤ sizeLine; decide, fun e he => ?_⟩
    have s1 : Same H (upd H e (.lst [])) := same_new he
    have he1 : (upd H e (.lst [])) e = some (.lst []) := upd_same
    generalize upd H e (.lst []) = H1 at s1 he1
    have L1 := L.same s1
    obtain ⟨ds1, sh1, dl1, dp1⟩ := list_dp (K := K) (L1.lk b)
    refine ⟨_, _, dp1 _ (SqL.of (L1.ll b)), .lst (SqL.of he1) .nil, sh1, by decide, ?_⟩
    rw [eqv_nil]
    have hdg1 := s1 _ _ hdg
    obtain ⟨dx1, hp1⟩ := id L1.ob
    have hpl1 := L1.pl b
    have hll1 := L1.ll b
    have nba := L1.d1 b b
    -- if digits[0] < 7
    refine ⟨_, rfl, dg, _, _, _, rfl, rfl, SqL.of hdg1, atI_nat (j := 0) rfl, _, _, rfl, rfl, _, rfl, ?_⟩
    have stay : LI C H1 p h s ls l0 l1 up xs (n + 1) := ⟨L1.ob, L1.pl, L1.ll, L1.two, L1.lk, fun b => by have := L1.ln b; omega, L1.d1, L1.d2, L1.d3, L1.d4, L1.d5⟩
    by_cases hx : xs b = []
    · -- there is none
      have hds : ds1.isEmpty = true := by
        rw [hx] at dl1
        cases ds1 with
        | nil => rfl
        | cons _ _ => simp at dl1
      rw [hds]
      refine ite2 (fun _ => ?_) (fun _ => ?_)
      · refine ⟨_, rfl, p, dx1, _, rfl, hp1, pf_no (by decide +kernel), _, rfl, _, rfl, p, up, h, s, b, xs b, d2, rfl, ⟨dx1, hp1⟩, hpl1, by omega, fun _ => ?_, fun _ k' y _ hy => ?_⟩
        · exact ⟨_, rfl, _, rfl, iteT (iteT ⟨_, rfl, rfl, k _ _ stay (Off.of s1)⟩)⟩
        · rw [hx] at hy; simp at hy
      · refine ⟨_, rfl, dg, _, _, _, rfl, rfl, SqL.of hdg1, atI_nat (j := 0) rfl, rfl, _, rfl, ?_⟩
        refine ite2 (fun _ => ?_) (fun _ => ?_)
        · refine ⟨_, rfl, p, dx1, _, rfl, hp1, pf_no (by decide +kernel), _, rfl, _, rfl, p, up, h, s, b, xs b, d2, rfl, ⟨dx1, hp1⟩, hpl1, by omega, fun _ => ?_, fun k' y _ hy => ?_⟩
          · refine ⟨_, rfl, false, rfl, iteF ?_⟩
            exact ⟨_, rfl, _, _, _, _, true, rfl, .ty "bool", .base (.bl _), kit_ty (by decide +kernel), true, rfl, iteT ⟨_, rfl, _, rfl, rfl, k _ _ stay (Off.of s1)⟩⟩
          · rw [hx] at hy; simp at hy
        · refine ⟨_, rfl, p, dx1, _, rfl, hp1, pf_no (by decide +kernel), _, rfl, _, rfl, p, up, h, s, b, xs b, d2, rfl, ⟨dx1, hp1⟩, hpl1, by omega, fun _ => ?_, fun k' y _ hy => ?_⟩
          · refine ⟨_, rfl, false, rfl, iteF ?_⟩
            exact ⟨_, rfl, _, _, _, _, true, rfl, .ty "bool", .base (.bl _), kit_ty (by decide +kernel), true, rfl, iteT ⟨_, rfl, _, rfl, rfl, k _ _ stay (Off.of s1)⟩⟩
          · rw [hx] at hy; simp at hy
    · -- there is one
      have hds : ds1.isEmpty = false := by
        cases ds1 with
        | nil => exact absurd (List.length_eq_zero_iff.mp dl1.symm) hx
        | cons _ _ => rfl
      rw [hds]
      have hpos : 0 < (xs b).length := List.length_pos_iff.mpr hx
      obtain ⟨j, ej, hj⟩ := mod_place (i := d2) hpos
      have hy : (xs b)[j]? = some (xs b)[j] := List.getElem?_eq_getElem hj
      generalize (xs b)[j] = y at hy
      have hyl : LetOk H1 y := L1.lk b y (List.mem_of_getElem? hy)
      have posI : (0 : Int) < ((xs b).length : Int) := by omega
      refine ite2 (fun _ => ?_) (fun _ => ?_)
      · refine ⟨_, rfl, p, dx1, _, rfl, hp1, pf_no (by decide +kernel), _, rfl, _, rfl, p, up, h, s, b, xs b, d2, rfl, ⟨dx1, hp1⟩, hpl1, by omega, fun hu => ?_, fun hu k' y' e' hy' => ?_⟩
        · rcases hu with rfl | hu
          · exact ⟨_, rfl, _, rfl, iteF ⟨_, rfl, _, rfl, iteT ⟨_, rfl, rfl, k _ _ stay (Off.of s1)⟩⟩⟩
          · exact absurd hu hx
        · have : k' = j := by omega
          subst this
          rw [hy] at hy'; cases hy'
          subst hu
          refine ⟨_, rfl, _, rfl, iteF ⟨_, rfl, _, rfl, iteF ?_⟩⟩
          have h2l : (upd H1 (dirA b h s) (.lst ((xs b).eraseIdx k'))) (dirA b l1 l0) = some (.lst (xs b)) := by rw [upd_ne nba.symm]; exact hll1
          refine ⟨_, rfl, _, rfl, _, rfl, _, _, rfl, .inl (SqL.of h2l), _, _, rfl, rfl, posI, _, _, _, _, rfl, rfl, SqL.of h2l, (by rw [ej]; exact atI_nat hy), ?_⟩
          refine ⟨_, rfl, .inl ⟨rfl, _, SqL.of h2l⟩, _, rfl, _, rfl, _, _, rfl, .inl (SqL.of h2l), _, _, rfl, rfl, posI, ?_⟩
          refine nil_ ⟨_, _, _, k', _, rfl, rfl, h2l, by omega, by omega, (by rw [ej]; exact seq_at hj), hy, ?_⟩
          obtain ⟨L2, o2⟩ := L1.put b ((xs b).eraseIdx k') (fun x hx => L1.lk b x (List.mem_of_mem_eraseIdx hx)) (Nat.le_succ n) (by have := List.length_eraseIdx_le (xs b) k'; omega)
          have hy2 : LetOk (upd (upd H1 (dirA b h s) (.lst ((xs b).eraseIdx k'))) (dirA b l1 l0) (.lst ((xs b).eraseIdx k'))) y := by
            refine hyl.off o2 ?_
            intro a ha
            simp only [List.mem_cons, List.not_mem_nil, or_false] at ha
            rcases ha with rfl | rfl | rfl | rfl
            · exact ⟨_, L1.pl true⟩
            · exact ⟨_, L1.pl false⟩
            · exact ⟨_, L1.ll false⟩
            · exact ⟨_, L1.ll true⟩
          obtain ⟨d, hd, shd⟩ := let_dp (K := K) hy2
          refine ⟨_, rfl, _, rfl, d, d, hd, hd, shd, shd, ?_⟩
          rw [SeqAt.eqv_refl _ (SeqAt.canLay_of_shaped shd)]
          exact k _ _ L2 ((Off.of s1).trans o2)
      · refine ⟨_, rfl, dg, _, _, _, rfl, rfl, SqL.of hdg1, atI_nat (j := 0) rfl, rfl, _, rfl, ?_⟩
        refine ite2 (fun _ => ?_) (fun _ => ?_)
        · refine ⟨_, rfl, p, dx1, _, rfl, hp1, pf_no (by decide +kernel), _, rfl, _, rfl, p, up, h, s, b, xs b, d2, rfl, ⟨dx1, hp1⟩, hpl1, by omega, fun hu => absurd hu hx, fun k' y' e' hy' => ?_⟩
          have : k' = j := by omega
          subst this
          have h2l : (upd H1 (dirA b h s) (.lst ((xs b).eraseIdx k'))) (dirA b l1 l0) = some (.lst (xs b)) := by rw [upd_ne nba.symm]; exact hll1
          refine ⟨_, rfl, true, rfl, iteT ?_⟩
          refine ⟨_, rfl, .inl ⟨rfl, _, SqL.of h2l⟩, _, rfl, _, rfl, _, _, rfl, .inl (SqL.of h2l), _, _, rfl, rfl, posI, ?_⟩
          refine nil_ ⟨_, _, _, k', _, rfl, rfl, h2l, by omega, by omega, (by rw [ej]; exact seq_at hj), hy, ?_⟩
          obtain ⟨L2, o2⟩ := L1.put b ((xs b).eraseIdx k') (fun x hx => L1.lk b x (List.mem_of_mem_eraseIdx hx)) (Nat.le_succ n) (by have := List.length_eraseIdx_le (xs b) k'; omega)
          exact ⟨_, rfl, _, _, _, _, true, rfl, .ty "bool", .base (.bl _), kit_ty (by decide +kernel), true, rfl, iteT ⟨_, rfl, _, rfl, rfl, k _ _ L2 ((Off.of s1).trans o2)⟩⟩
        · refine ⟨_, rfl, p, dx1, _, rfl, hp1, pf_no (by decide +kernel), _, rfl, _, rfl, p, up, h, s, b, xs b, d2, rfl, ⟨dx1, hp1⟩, hpl1, by omega, fun hu => absurd hu hx, fun k' y' e' hy' => ?_⟩
          have : k' = j := by omega
          subst this
          rw [hy] at hy'; cases hy'
          have h2l : (upd H1 (dirA b h s) (.lst (xs b ++ [y]))) (dirA b l1 l0) = some (.lst (xs b)) := by rw [upd_ne nba.symm]; exact hll1
          refine ⟨_, rfl, true, rfl, iteT ?_⟩
          refine ⟨_, rfl, .inl ⟨rfl, _, SqL.of h2l⟩, _, rfl, _, rfl, _, rfl, _, _, rfl, .inl (SqL.of h2l), _, _, rfl, rfl, posI, ?_⟩
          refine ⟨_, _, _, _, rfl, rfl, SqL.of h2l, (by rw [ej]; exact atI_nat hy), ?_⟩
          refine nil_ ⟨_, _, _, rfl, rfl, h2l, small1000 (by omega), ?_⟩
          obtain ⟨L2, o2⟩ := L1.put b (xs b ++ [y]) (fun x hx => by
            rcases List.mem_append.mp hx with hx | hx
            · exact L1.lk b x hx
            · rw [List.mem_singleton.mp hx]; exact hyl) (Nat.le_succ n) (by rw [List.length_append]; simp only [List.length_cons, List.length_nil]; omega)
          exact ⟨_, rfl, _, _, _, _, true, rfl, .ty "bool", .base (.bl _), kit_ty (by decide +kernel), true, rfl, iteT ⟨_, rfl, _, rfl, rfl, k _ _ L2 ((Off.of s1).trans o2)⟩⟩
end
end Sg

set_option Elab.async false
set_option linter.all false
set_option maxRecDepth 100000
set_option maxHeartbeats 4000000
namespace Sg
open PySem PySem.Spec PyProof.Rows L2
def spLaw (K : PySem.W.Frag) : Sp := fun vs H Q _ => ∃ (a : Addr) (ns : List Int), vs = [.ref a] ∧ SqL K H a (ns.map V.int) ∧ ns.length ≤ 63 ∧ ∀ H', Q (.bl true) H'
/-- the script stands still while the lists xs change -/
def Scr (K : PySem.W.Frag) (H : Hp) (a : Addr) (l : List V) (xs : List Addr) : Prop := (∃ o, H a = some o ∧ (o = .lst l ∨ ∃ u, o = .frz u (.lst l)) ∧ a ∉ xs) ∨ ∀ H', SqL K H' a l
theorem Scr.sq {K : PySem.W.Frag} {H : Hp} {a : Addr} {l : List V} {xs : List Addr} (h : Scr K H a l xs) : SqL K H a l := by
  rcases h with ⟨o, h, rfl | ⟨u, rfl⟩, _⟩ | h
  · exact .inl (.inl h)
  · exact .inl (.inr ⟨u, h⟩)
  · exact h H
theorem Scr.off {K : PySem.W.Frag} {H H' : Hp} {a : Addr} {l : List V} {xs : List Addr} (h : Scr K H a l xs) (o : Off xs H H') : Scr K H' a l xs := by
  rcases h with ⟨ob, h, e, n⟩ | h
  · exact .inl ⟨ob, o _ _ h n, e, n⟩
  · exact .inr h
theorem Scr.ins {K : PySem.W.Frag} {H : Hp} {p : Addr} {a : Addr} {l : List V} {C dx : Addr} {fs : List (Str × V)} {u : HO} {xs : List Addr} (h : Scr K H a l xs) (hp : H p = some (.ins C dx fs)) : Scr K (upd H p u) a l xs := by
  rcases h with ⟨ob, h, e, n⟩ | h
  · refine .inl ⟨ob, ?_, e, n⟩
    rw [upd_ne (ne_of h hp (by rcases e with rfl | ⟨_, rfl⟩ <;> (intro z; cases z)))]; exact h
  · exact .inr h
theorem Scr.of {K : PySem.W.Frag} {H : Hp} {a : Addr} {l : List V} {xs : List Addr} (h : SqL K H a l) (n : ∀ o, H a = some o → a ∉ xs) : Scr K H a l xs := by
  rcases h with (h | ⟨u, h⟩) | h
  · exact .inl ⟨_, h, .inl rfl, n _ h⟩
  · exact .inl ⟨_, h, .inr ⟨u, rfl⟩, n _ h⟩
  · exact .inr fun H' => .inr h
theorem LI.up {C : Addr} {H : Hp} {p h s ls l0 l1 dx : Addr} {up u2 : Bool} {xs : Bool → List V} {n : Nat} (g : LI C H p h s ls l0 l1 up xs n) (hp : H p = some (.ins C dx (pf up h s))) : LI C (upd H p (.ins C dx (pf u2 h s))) p h s ls l0 l1 u2 xs (n + 1) := by
  refine ⟨⟨dx, upd_same⟩, fun b => ?_, fun b => ?_, ?_, fun b x hx => ?_, fun b => Nat.le_succ_of_le (g.ln b), g.d1, g.d2, g.d3, g.d4, g.d5⟩
  · rw [upd_ne (ne_of (g.pl b) hp (by intro z; cases z))]; exact g.pl b
  · rw [upd_ne (ne_of (g.ll b) hp (by intro z; cases z))]; exact g.ll b
  · rw [upd_ne (ne_of g.two hp (by intro z; cases z))]; exact g.two
  · obtain ⟨t, i, j, e, ht⟩ := g.lk b x hx
    exact ⟨t, i, j, e, by rw [upd_ne (ne_of ht hp (by intro z; cases z))]; exact ht⟩
section
variable {P : Program} {wd : World} {K : PySem.W.Frag} {mg : Str → Option Value} {base : Heap} {f C f0 f1 f2 f5 f6 f7 f8 : Addr} {fd fd0 fd1 fd2 fd5 fd6 fd7 fd8 : FuncData}
theorem scLaw : FnScope ["script", "path", "lists", "up", "k", "digits", "way", "told"] ["script"] (defScope sLaw) := ⟨rfl, rfl, rfl, by decide +kernel, rfl, by decide +kernel, by decide +kernel⟩
theorem ok_law (F : Fun K "law" "law" sLaw f fd) (T : PT9 K mg C) (B : BB mg) (M : Mk K C f0) (GI : FnOk P wd K mg base CX0 1 f0 fd0 ["self"] (spInit C)) (bI : Binds K fd0 ["self"] [])
    (Ce : Def P wd K mg base CX0 "_law_cell" 1 ["script", "k"] (spCell K) f1 fd1) (Di : Def P wd K mg base CX0 "_law_digits" 1 ["cell", "bases"] (spDig K) f2 fd2) (Ma : Def P wd K mg base CX0 "_law_many" 1 ["script", "few", "many"] (spMany K) f5 fd5)
    (Ac : Def P wd K mg base CX0 "_law_act" 3 ["path", "lists", "digits", "up"] (spAct C) f6 fd6) (Up : Mth P wd K mg base CX0 C "set_up" 1 ["self", "up"] (spUp C) f7 fd7) (Le : Mth P wd K mg base CX0 C "letters" 2 ["self", "to_host"] (spLet C) f8 fd8) :
    FnOk P wd K mg base CX0 4 f fd ["script"] (spLaw K) := by
  refine F.ok scLaw (fun vs H Q E h => ?_) (fun cdv A outer s0 H vs Q E hr h => ?_)
  · obtain ⟨a, ns, rfl, _⟩ := h
    rfl
  · obtain ⟨a, ns, rfl, hS, hlen, kk⟩ := h
    have hr1 : Room 1 _ := hr.mono (by decide)
    have hr2 : Room 2 _ := hr.mono (by decide)
    refine ⟨_, (pss_cons (ps_set (i := 1) scLaw.nd rfl (Or.inl rfl) (pe_make0 M GI hr2 (by rfl) T.gC bI .nil pass0))
      (pss_cons (ps_set (i := 2) scLaw.nd rfl (Or.inl rfl) (pe_lst (pa_cons (pe_lst pa_nil) (pa_cons (pe_lst pa_nil) pa_nil))))
      (pss_cons (ps_set (i := 3) scLaw.nd rfl (Or.inl rfl) pe_bl)
      (pss_cons (ps_for PassesOwn.never rfl (pi_range1 (by rfl) B.range (pa_cons (pe_callB (call_min2 rfl) (by rfl) B.min (by decide +kernel) (pa_cons (pe_callB call_len_seq (by rfl) B.len PySem.boot_len (pa_cons (pv 0) pa_nil)) (pa_cons (pe_call Ma.ok hr1 (by rfl) Ma.mg Ma.kp Ma.bd .nil pass0 (pa_cons (pv 0) (pa_cons pe_int (pa_cons pe_int pa_nil)))) pa_nil))) pa_nil)) (pg_name (i := 4) scLaw.nd rfl (Or.inl rfl))
      (pss_cons (ps_set (i := 5) scLaw.nd rfl (Or.inl rfl) (pe_call Di.ok hr1 (by rfl) Di.mg Di.kp Di.bd .nil pass0 (pa_cons (pe_op op_add (pe_call Ce.ok hr1 (by rfl) Ce.mg Ce.kp Ce.bd .nil pass0 (pa_cons (pv 0) (pa_cons (pv 4) pa_nil))) (pe_op op_mul pe_int (pv 4))) (pa_cons (pe_lst (pa_cons pe_int (pa_cons pe_int (pa_cons pe_int (pa_cons pe_int pa_nil))))) pa_nil))))
      (Evl.pss_cut (ps_if (pt_cmpR op_eq (pe_ix ix_list (pv 5) pe_int (fun _ _ => rfl)) pe_int (nomark _))
      (pss_cons (ps_set (i := 3) scLaw.nd rfl (Or.inl rfl) (pe_cmpR op_gt (pe_op op_mod (pe_ix ix_list (pv 5) pe_int (fun _ _ => rfl)) pe_int) pe_int (nomark _)))
      (pss_one (ps_expr (pe_meth (pv 1) T.cl Up.me Up.ok hr1 Up.bd .nil pass0 (pa_cons (pv 3) pa_nil))))) (pss_one (ps_if (pt_not (pt_val (pe_call Ac.ok hr (by rfl) Ac.mg Ac.kp Ac.bd .nil pass0 (pa_cons (pv 1) (pa_cons (pv 2) (pa_cons (pv 5) (pa_cons (pv 3) pa_nil)))))))
      (pss_one (ps_ret pe_bl)) pss_nil)))
      (pss_cons (ps_if (pt_cmpR op_ne (pe_fld (pv 1) rfl) (pv 3) (nomark _))
      (pss_one (ps_ret pe_bl)) pss_nil)
      (pss_one (ps_for PassesOwn.never rfl (pi_range1 (by rfl) B.range (pa_cons pe_int pa_nil)) (pg_name (i := 6) scLaw.nd rfl (Or.inl rfl))
      (pss_cons (ps_set (i := 7) scLaw.nd rfl (Or.inl rfl) (pe_meth (pv 1) T.cl Le.me Le.ok hr2 Le.bd .nil pass0 (pa_cons (pe_cmpR op_eq (pv 6) pe_int (nomark _)) pa_nil)))
      (pss_cons (ps_if (PW.pt (pw_or (pt_not (pt_val (pe_callB call_isi (by rfl) B.isi boot_isi (pa_cons (pv 7) (pa_cons (pe_bltn (v := .ty "list") (by rfl) B.list boot_list rfl) pa_nil))))) (pw_or1 (pt_cmpR (op_neD hr.units) (pv 7) (pe_ix ix_list (pv 2) (pv 6) (fun _ _ => rfl)) (nomark _)))))
      (pss_one (ps_ret pe_bl)) pss_nil)
      (pss_one (ps_expr (pe_bm PySem.F.plainAttrs_list PySem.F.slot_list_append PySem.F.type_list_append mt_append (pv 7) (pa_cons pe_non pa_nil))))))))))))
      (pss_one (ps_ret (pe_and (pe_cmpR (op_eqD hr.units) (pe_meth (pv 1) T.cl Le.me Le.ok hr2 Le.bd .nil pass0 (pa_cons pe_bl pa_nil)) (pe_ix ix_list (pv 2) pe_int (fun _ _ => rfl)) (nomark _)) (pe_one (pe_cmpR (op_eqD hr.units) (pe_meth (pv 1) T.cl Le.me Le.ok hr2 Le.bd .nil pass0 (pa_cons pe_bl pa_nil)) (pe_ix ix_list (pv 2) pe_int (fun _ _ => rfl)) (nomark _)))))))))), ?_⟩
    -- path = Path()
    refine fun p dx hp hdx hne => ?_
    have hp1 : (upd (upd H dx (.own p)) p (.ins C dx [])) p = some (.ins C dx []) := upd_same
    have s0 : Same H (upd (upd H dx (.own p)) p (.ins C dx [])) := fun x o hx => by
      rw [upd_ne (ne_of_none hx hp), upd_ne (ne_of_none hx hdx)]; exact hx
    generalize upd (upd H dx (.own p)) p (.ins C dx []) = H1 at hp1 s0
    refine ⟨p, dx, rfl, hp1, fun h s H2 P2 hh2 hs2 hh hs nhs off => ⟨rfl, ?_⟩⟩
    -- lists = [[], []]; up = True
    refine ⟨by show 0 ≤ sizeLine; decide, fun l0 h0 => ⟨by show 0 ≤ sizeLine; decide, fun l1 h1 => ⟨by show 2 ≤ sizeLine; decide, fun ls hls => ?_⟩⟩⟩
    have sa : Same H2 (upd H2 l0 (.lst [])) := same_new h0
    have sb : Same (upd H2 l0 (.lst [])) (upd (upd H2 l0 (.lst [])) l1 (.lst [])) := same_new h1
    have sc : Same (upd (upd H2 l0 (.lst [])) l1 (.lst [])) (upd (upd (upd H2 l0 (.lst [])) l1 (.lst [])) ls (.lst [.ref l0, .ref l1])) := same_new hls
    have e0 : (upd H2 l0 (.lst [])) l0 = some (.lst []) := upd_same
    have e1 : (upd (upd H2 l0 (.lst [])) l1 (.lst [])) l1 = some (.lst []) := upd_same
    have e2 : (upd (upd (upd H2 l0 (.lst [])) l1 (.lst [])) ls (.lst [.ref l0, .ref l1])) ls = some (.lst [.ref l0, .ref l1]) := upd_same
    generalize upd (upd (upd H2 l0 (.lst [])) l1 (.lst [])) ls (.lst [.ref l0, .ref l1]) = H5 at sc e2
    generalize upd (upd H2 l0 (.lst [])) l1 (.lst []) = H4 at sb sc e1 hls
    generalize upd H2 l0 (.lst []) = H3 at sa sb e0 h1
    have h0' := sc _ _ (sb _ _ e0)
    have h1' := sc _ _ e1
    obtain ⟨dx2, hp2⟩ := P2
    have hhs3 := sa _ _ hs2
    have hhh3 := sa _ _ hh2
    have hhs4 := sb _ _ hhs3
    have hhh4 := sb _ _ hhh3
    have e04 := sb _ _ e0
    have L5 : LI C H5 p h s ls l0 l1 true (fun _ => []) 0 := by
      refine ⟨⟨dx2, sc _ _ (sb _ _ (sa _ _ hp2))⟩, ?_, ?_, e2, (fun b x hx => by cases hx), (fun b => Nat.le_refl 0), ?_, nhs, ne_of_none e0 h1, ?_, ?_⟩
      · intro b; cases b
        · exact sc _ _ hhs4
        · exact sc _ _ hhh4
      · intro b; cases b
        · exact h0'
        · exact h1'
      · intro b c; cases b <;> cases c
        · exact ne_of_none hs2 h0
        · exact ne_of_none hhs3 h1
        · exact ne_of_none hh2 h0
        · exact ne_of_none hhh3 h1
      · intro b; cases b
        · exact (ne_of_none hhs4 hls).symm
        · exact (ne_of_none hhh4 hls).symm
      · intro b; cases b
        · exact (ne_of_none e04 hls).symm
        · exact (ne_of_none e1 hls).symm
    have S5 : Scr K H5 a (ns.map V.int) [h, s, l0, l1] := by
      have S0 : Scr K H a (ns.map V.int) [h, s, l0, l1] := Scr.of hS fun o ho hm => by
        have ho1 := s0 _ _ ho
        simp only [List.mem_cons, List.not_mem_nil, or_false] at hm
        rcases hm with rfl | rfl | rfl | rfl
        · rw [hh] at ho1; cases ho1
        · rw [hs] at ho1; cases ho1
        · by_cases hap : a = p
          · subst hap; rw [hp2] at h0; cases h0
          · rw [off _ _ ho1 (by simpa using hap)] at h0; cases h0
        · by_cases hap : a = p
          · subst hap; rw [sa _ _ hp2] at h1; cases h1
          · rw [sa _ _ (off _ _ ho1 (by simpa using hap))] at h1; cases h1
      have S1 := S0.off (Off.of s0)
      have S2 : Scr K H2 a (ns.map V.int) [h, s, l0, l1] := by
        rcases S1 with ⟨ob, q, e, n⟩ | q
        · refine .inl ⟨ob, off _ _ q ?_, e, n⟩
          simpa using ne_of q hp1 (by rcases e with rfl | ⟨_, rfl⟩ <;> (intro z; cases z))
        · exact .inr q
      exact ((S2.off (Off.of sa)).off (Off.of sb)).off (Off.of sc)
    -- for k in range(min(len(script), _law_many(script, 16, 50)))
    refine ⟨_, rfl, a, _, rfl, .inl S5.sq, _, rfl, a, ns, 16, 50, rfl, S5.sq, fun m hm => ?_⟩
    refine nil_ ⟨_, _, rfl, ?_⟩
    rw [List.length_map]
    obtain ⟨N, hN, hN63⟩ : ∃ N : Nat, (if m < ((ns.length : Nat) : Int) then m else ((ns.length : Nat) : Int)) = (N : Int) ∧ N ≤ 63 := by
      rcases hm with rfl | rfl
      · by_cases c : (16 : Int) < ((ns.length : Nat) : Int)
        · exact ⟨16, by rw [if_pos c]; rfl, by decide⟩
        · exact ⟨ns.length, by rw [if_neg c], hlen⟩
      · by_cases c : (50 : Int) < ((ns.length : Nat) : Int)
        · exact ⟨50, by rw [if_pos c]; rfl, by decide⟩
        · exact ⟨ns.length, by rw [if_neg c], hlen⟩
    rw [hN]
    refine nil_ ⟨_, rfl, by omega, by omega, ?_⟩
    rw [Int.toNat_natCast]
    refine for_range (lo := 0) (n := N) (fun i σ H' => ∃ (up : Bool) (xs : Bool → List V) (x4 x5 x6 x7 : Option V), σ = [some (.ref a), some (.ref p), some (.ref ls), some (.bl up), x4, x5, x6, x7] ∧ LI C H' p h s ls l0 l1 up xs i ∧ Scr K H' a (ns.map V.int) [h, s, l0, l1]) ?_ ?_ ?_
    · exact ⟨true, _, _, _, _, _, rfl, L5, S5⟩
    · rintro i σ H' hi ⟨up, xs, x4, x5, x6, x7, rfl, L, S⟩
      refine ⟨_, rfl, _, rfl, a, ns, i, (by rw [Int.zero_add]; rfl), S.sq, ?_⟩
      -- digits = _law_digits(_law_cell(script, k) + 3 * k, [10, 2, 30, 5])
      refine ⟨_, rfl, _, _, rfl, rfl, .inl ⟨by decide, by decide⟩, _, _, rfl, rfl, by show 4 ≤ sizeLine; decide, fun bl hbl => ?_⟩
      have s1 : Same H' (upd H' bl (.lst [.int 10, .int 2, .int 30, .int 5])) := same_new hbl
      have hb1 : (upd H' bl (.lst [.int 10, .int 2, .int 30, .int 5])) bl = some (.lst [.int 10, .int 2, .int 30, .int 5]) := upd_same
      generalize upd H' bl (.lst [.int 10, .int 2, .int 30, .int 5]) = G1 at s1 hb1
      refine nil_ ⟨_, bl, [10, 2, 30, 5], rfl, SqL.of hb1, by decide, by decide, fun dg ds G2 hdg s2 hds hdl hdb => ?_⟩
      obtain ⟨d0, d1, d2, d3, rfl⟩ : ∃ d0 d1 d2 d3, ds = [d0, d1, d2, d3] := by
        match ds, hdl with
        | [d0, d1, d2, d3], _ => exact ⟨_, _, _, _, rfl⟩
      have b1 := hdb 1 d1 2 rfl rfl
      have L2 := (L.same s1).same s2
      have S2 := (S.off (Off.of s1)).off (Off.of s2)
      have hds' : G2 dg = some (.lst [.int d0, .int d1, .int d2, .int d3]) := hds
      -- if digits[0] == 9: .. elif not _law_act(..): return False
      refine ⟨fun σ H' => ∃ (up : Bool) (xs : Bool → List V) (x4 x5 x6 x7 : Option V), σ = [some (.ref a), some (.ref p), some (.ref ls), some (.bl up), x4, x5, x6, x7] ∧ LI C H' p h s ls l0 l1 up xs (i + 1) ∧ Scr K H' a (ns.map V.int) [h, s, l0, l1], ?_, ?_⟩
      · refine ⟨_, rfl, dg, _, _, _, rfl, rfl, SqL.of hds', atI_nat (j := 0) rfl, rfl, _, rfl, ?_⟩
        refine ite2 (fun _ => ?_) (fun _ => ?_)
        · refine ⟨_, rfl, dg, _, _, _, rfl, rfl, SqL.of hds', atI_nat (j := 2) rfl, _, _, rfl, rfl, (by show (0 : Int) < 3; decide), _, _, rfl, rfl, ?_⟩
          obtain ⟨dx5, hp5⟩ := id L2.ob
          refine ⟨_, rfl, p, dx5, _, rfl, hp5, pf_no (by decide +kernel), _, rfl, p, up, h, s, _, dx5, rfl, hp5, ?_⟩
          exact ⟨_, xs, _, _, _, _, rfl, L2.up hp5, S2.ins hp5⟩
        · refine ⟨_, rfl, _, rfl, _, rfl, _, rfl, p, h, s, ls, l0, l1, dg, up, xs, i, d0, d1, d2, d3, rfl, L2, by omega, hds', by omega, fun G3 xs' L3 o3 => ⟨true, rfl, iteF ?_⟩⟩
          exact ⟨_, xs', _, _, _, _, rfl, L3, S2.off o3⟩
      · rintro σ G3 ⟨up, xs, x4, x5, x6, x7, rfl, L, S⟩
        obtain ⟨dx5, hp5⟩ := id L.ob
        refine ⟨_, rfl, p, C, dx5, _, _, rfl, hp5, T.cl, T.n1, pf_up, _, rfl, rfl, _, rfl, ?_⟩
        rw [bl_eqT]
        refine iteF ?_
        -- for way in range(2)
        refine ⟨2, rfl, by decide, by decide, ?_⟩
        refine for_range (lo := 0) (n := 2) (fun j σ H' => ∃ (x4 x5 x6 x7 : Option V), σ = [some (.ref a), some (.ref p), some (.ref ls), some (.bl up), x4, x5, x6, x7] ∧ LI C H' p h s ls l0 l1 up xs (i + 1) ∧ Scr K H' a (ns.map V.int) [h, s, l0, l1]) ?_ ?_ ?_
        · exact ⟨_, _, _, _, rfl, L, S⟩
        · rintro j σ G4 hj ⟨x4, x5, x6, x7, rfl, L, S⟩
          obtain ⟨b, hb, hb2⟩ : ∃ b : Bool, atI ([.ref l0, .ref l1] : List V) (0 + (j : Int)) = some (.ref (dirA b l1 l0)) ∧ decide (V.int (0 + (j : Int)) = V.int 1) = b := by
            have : j = 0 ∨ j = 1 := by omega
            rcases this with rfl | rfl
            · exact ⟨false, rfl, by decide⟩
            · exact ⟨true, rfl, by decide⟩
          obtain ⟨dx6, hp6⟩ := id L.ob
          refine ⟨_, rfl, p, dx6, _, rfl, hp6, pf_no (by decide +kernel), _, rfl, rfl, ?_⟩
          rw [hb2]
          refine nil_ ⟨p, up, h, s, b, xs b, rfl, ⟨dx6, hp6⟩, L.pl b, fun l hl => ?_⟩
          have s5 : Same G4 (upd G4 l (.lst (xs b))) := same_new hl
          have hl5 : (upd G4 l (.lst (xs b))) l = some (.lst (xs b)) := upd_same
          have L5 := L.same s5
          obtain ⟨ds, sh, dl, dp⟩ := list_dp (K := K) (L5.lk b)
          refine ⟨_, rfl, .ref l, _, .type "list", _, true, rfl, .ty "list", .base (.lst hl5), kit_ty (by decide +kernel), _, rfl, ?_⟩
          refine iteF ?_
          refine ⟨_, rfl, _, rfl, _, rfl, ls, _, _, _, rfl, rfl, SqL.of L5.two, hb, _, _, dp _ (SqL.of hl5), dp _ (SqL.of (L5.ll b)), sh, sh, _, rfl, ?_⟩
          rw [SeqAt.eqv_refl _ (SeqAt.canLay_of_shaped sh)]
          refine iteF ?_
          refine ⟨_, rfl, .inl ⟨rfl, _, SqL.of hl5⟩, _, _, _, rfl, rfl, hl5, small1000 (by have := L.ln b; omega), ?_⟩
          rw [upd_two]
          have s6 : Same G4 (upd G4 l (.lst (xs b ++ [.non]))) := same_new hl
          exact ⟨_, _, _, _, rfl, L.same s6, S.off (Off.of s6)⟩
        · rintro σ G4 ⟨x4, x5, x6, x7, rfl, L, S⟩
          exact ⟨up, xs, _, _, _, _, rfl, L, S⟩
    · rintro σ H' ⟨up, xs, x4, x5, x6, x7, rfl, L, S⟩
      obtain ⟨dx6, hp6⟩ := id L.ob
      refine ⟨_, rfl, p, dx6, _, rfl, hp6, pf_no (by decide +kernel), p, up, h, s, false, xs false, rfl, ⟨dx6, hp6⟩, L.pl false, fun l hl => ?_⟩
      have s5 : Same H' (upd H' l (.lst (xs false))) := same_new hl
      have hl5 : (upd H' l (.lst (xs false))) l = some (.lst (xs false)) := upd_same
      have L5 := L.same s5
      obtain ⟨ds, sh, dl, dp⟩ := list_dp (K := K) (L5.lk false)
      refine ⟨_, rfl, ls, _, _, _, rfl, rfl, SqL.of L5.two, atI_nat (j := 0) rfl, _, _, dp _ (SqL.of hl5), dp _ (SqL.of (L5.ll false)), sh, sh, ?_⟩
      rw [SeqAt.eqv_refl _ (SeqAt.canLay_of_shaped sh)]
      refine ⟨true, rfl, iteT ?_⟩
      generalize upd H' l (.lst (xs false)) = H6 at L5
      obtain ⟨dx7, hp7⟩ := id L5.ob
      refine ⟨_, rfl, p, dx7, _, rfl, hp7, pf_no (by decide +kernel), p, up, h, s, true, xs true, rfl, ⟨dx7, hp7⟩, L5.pl true, fun l hl => ?_⟩
      have s7 : Same H6 (upd H6 l (.lst (xs true))) := same_new hl
      have hl7 : (upd H6 l (.lst (xs true))) l = some (.lst (xs true)) := upd_same
      have L7 := L5.same s7
      obtain ⟨ds, sh, dl, dp⟩ := list_dp (K := K) (L7.lk true)
      refine ⟨_, rfl, ls, _, _, _, rfl, rfl, SqL.of L7.two, atI_nat (j := 1) rfl, _, _, dp _ (SqL.of hl7), dp _ (SqL.of (L7.ll true)), sh, sh, ?_⟩
      rw [SeqAt.eqv_refl _ (SeqAt.canLay_of_shaped sh)]
      exact kk _
end
end Sg

set_option Elab.async false
set_option linter.all false
set_option maxRecDepth 100000
set_option maxHeartbeats 8000000
namespace Sg
open PySem PySem.Spec PyProof.Rows L2
theorem all_mk {l : PySem.W.OpenLaw} {w : World} {K : PySem.W.Frag} {h : Heap} {mg : Str → Option Value} {fa C fMI fMS fML fMD fMR fMB fMU fMY fCe fDi fMa fAc fL : Addr} (X : K.In h) (G : h.Ns mainGlobals mg) (hfa : mg "law" = some (.ref fa))
    {odMI anMI odMS anMS odML anML odMD anMD odMR anMR odMB anMB odMU anMU odMY anMY odCe anCe odDi anDi odMa anMa odAc anAc odL anL : Option Addr} {slMI slMS slML slMD slMR slMB slMU slMY slCe slDi slMa slAc slL : Array (Option Value)} {ocMI kVMI dcMI pmMI cdMI ctMI ocMS kVMS dcMS pmMS cdMS ctMS ocML kVML dcML pmML cdML ctML ocMD kVMD dcMD pmMD cdMD ctMD ocMR kVMR dcMR pmMR cdMR ctMR ocMB kVMB dcMB pmMB cdMB ctMB ocMU kVMU dcMU pmMU cdMU ctMU ocMY kVMY dcMY pmMY cdMY ctMY ocCe kVCe dcCe pmCe cdCe ctCe ocDi kVDi dcDi pmDi cdDi ctDi ocMa kVMa dcMa pmMa cdMa ctMa ocAc kVAc dcAc pmAc cdAc ctAc ocL kVL dcL pmL cdL ctL : Value} 
    (aC : PySem.W.nsIn K mainGlobals "Path" = some (some (.ref C)))
    (pg : PySem.W.plainGet K C Str.empty = true)
    (hd : PySem.W.hasDictIn K C = true)
    (po : PySem.W.plainOver K C = true)
    (sa : PySem.W.findIn K (.ref C) "__setattr__" = some (some (.builtin "object.__setattr__")))
    (mk : PySem.W.makesIn K C = true)
    (kc : PySem.W.keepIn K (.ref C) = true)
    (n1 : PySem.W.findIn K (.ref C) "up" = some none)
    (n2 : PySem.W.findIn K (.ref C) "_to_host" = some none)
    (n3 : PySem.W.findIn K (.ref C) "_to_subsystem" = some none)
    (aMI : PySem.W.findIn K (.ref C) "__init__" = some (some (.ref fMI)))
    (iMI : PySem.W.isFn K (.ref fMI) = true)
    (lMI : K.lookup fMI = some ⟨ocMI, odMI, .func (PySem.W.fnOf "__init__" "Path.__init__" (defArgs (cP 0)) (defBody (cP 0)) (defScope (cP 0)) .none kVMI dcMI pmMI anMI cdMI ctMI), slMI⟩)
    (cMI : PySem.W.codeIn K cdMI "Path.__init__" = true)
    (kMI : PySem.W.keepIn K (.ref fMI) = true)
    (aMS : PySem.W.findIn K (.ref C) "send" = some (some (.ref fMS)))
    (iMS : PySem.W.isFn K (.ref fMS) = true)
    (lMS : K.lookup fMS = some ⟨ocMS, odMS, .func (PySem.W.fnOf "send" "Path.send" (defArgs (cP 1)) (defBody (cP 1)) (defScope (cP 1)) .none kVMS dcMS pmMS anMS cdMS ctMS), slMS⟩)
    (cMS : PySem.W.codeIn K cdMS "Path.send" = true)
    (kMS : PySem.W.keepIn K (.ref fMS) = true)
    (aML : PySem.W.findIn K (.ref C) "letters" = some (some (.ref fML)))
    (iML : PySem.W.isFn K (.ref fML) = true)
    (lML : K.lookup fML = some ⟨ocML, odML, .func (PySem.W.fnOf "letters" "Path.letters" (defArgs (cP 2)) (defBody (cP 2)) (defScope (cP 2)) .none kVML dcML pmML anML cdML ctML), slML⟩)
    (cML : PySem.W.codeIn K cdML "Path.letters" = true)
    (kML : PySem.W.keepIn K (.ref fML) = true)
    (aMD : PySem.W.findIn K (.ref C) "deliver" = some (some (.ref fMD)))
    (iMD : PySem.W.isFn K (.ref fMD) = true)
    (lMD : K.lookup fMD = some ⟨ocMD, odMD, .func (PySem.W.fnOf "deliver" "Path.deliver" (defArgs (cP 3)) (defBody (cP 3)) (defScope (cP 3)) .none kVMD dcMD pmMD anMD cdMD ctMD), slMD⟩)
    (cMD : PySem.W.codeIn K cdMD "Path.deliver" = true)
    (kMD : PySem.W.keepIn K (.ref fMD) = true)
    (aMR : PySem.W.findIn K (.ref C) "drop" = some (some (.ref fMR)))
    (iMR : PySem.W.isFn K (.ref fMR) = true)
    (lMR : K.lookup fMR = some ⟨ocMR, odMR, .func (PySem.W.fnOf "drop" "Path.drop" (defArgs (cP 4)) (defBody (cP 4)) (defScope (cP 4)) .none kVMR dcMR pmMR anMR cdMR ctMR), slMR⟩)
    (cMR : PySem.W.codeIn K cdMR "Path.drop" = true)
    (kMR : PySem.W.keepIn K (.ref fMR) = true)
    (aMB : PySem.W.findIn K (.ref C) "double" = some (some (.ref fMB)))
    (iMB : PySem.W.isFn K (.ref fMB) = true)
    (lMB : K.lookup fMB = some ⟨ocMB, odMB, .func (PySem.W.fnOf "double" "Path.double" (defArgs (cP 5)) (defBody (cP 5)) (defScope (cP 5)) .none kVMB dcMB pmMB anMB cdMB ctMB), slMB⟩)
    (cMB : PySem.W.codeIn K cdMB "Path.double" = true)
    (kMB : PySem.W.keepIn K (.ref fMB) = true)
    (aMU : PySem.W.findIn K (.ref C) "set_up" = some (some (.ref fMU)))
    (iMU : PySem.W.isFn K (.ref fMU) = true)
    (lMU : K.lookup fMU = some ⟨ocMU, odMU, .func (PySem.W.fnOf "set_up" "Path.set_up" (defArgs (cP 6)) (defBody (cP 6)) (defScope (cP 6)) .none kVMU dcMU pmMU anMU cdMU ctMU), slMU⟩)
    (cMU : PySem.W.codeIn K cdMU "Path.set_up" = true)
    (kMU : PySem.W.keepIn K (.ref fMU) = true)
    (aMY : PySem.W.findIn K (.ref C) "_direction" = some (some (.ref fMY)))
    (iMY : PySem.W.isFn K (.ref fMY) = true)
    (lMY : K.lookup fMY = some ⟨ocMY, odMY, .func (PySem.W.fnOf "_direction" "Path._direction" (defArgs (cP 7)) (defBody (cP 7)) (defScope (cP 7)) .none kVMY dcMY pmMY anMY cdMY ctMY), slMY⟩)
    (cMY : PySem.W.codeIn K cdMY "Path._direction" = true)
    (kMY : PySem.W.keepIn K (.ref fMY) = true)
    (aCe : PySem.W.nsIn K mainGlobals "_law_cell" = some (some (.ref fCe)))
    (lCe : K.lookup fCe = some ⟨ocCe, odCe, .func (PySem.W.fnOf "_law_cell" "_law_cell" (defArgs sCell) (defBody sCell) (defScope sCell) .none kVCe dcCe pmCe anCe cdCe ctCe), slCe⟩)
    (cCe : PySem.W.codeIn K cdCe "_law_cell" = true)
    (kCe : PySem.W.keepIn K (.ref fCe) = true)
    (aDi : PySem.W.nsIn K mainGlobals "_law_digits" = some (some (.ref fDi)))
    (lDi : K.lookup fDi = some ⟨ocDi, odDi, .func (PySem.W.fnOf "_law_digits" "_law_digits" (defArgs sDigits) (defBody sDigits) (defScope sDigits) .none kVDi dcDi pmDi anDi cdDi ctDi), slDi⟩)
    (cDi : PySem.W.codeIn K cdDi "_law_digits" = true)
    (kDi : PySem.W.keepIn K (.ref fDi) = true)
    (aMa : PySem.W.nsIn K mainGlobals "_law_many" = some (some (.ref fMa)))
    (lMa : K.lookup fMa = some ⟨ocMa, odMa, .func (PySem.W.fnOf "_law_many" "_law_many" (defArgs sMany) (defBody sMany) (defScope sMany) .none kVMa dcMa pmMa anMa cdMa ctMa), slMa⟩)
    (cMa : PySem.W.codeIn K cdMa "_law_many" = true)
    (kMa : PySem.W.keepIn K (.ref fMa) = true)
    (aAc : PySem.W.nsIn K mainGlobals "_law_act" = some (some (.ref fAc)))
    (lAc : K.lookup fAc = some ⟨ocAc, odAc, .func (PySem.W.fnOf "_law_act" "_law_act" (defArgs sAct) (defBody sAct) (defScope sAct) .none kVAc dcAc pmAc anAc cdAc ctAc), slAc⟩)
    (cAc : PySem.W.codeIn K cdAc "_law_act" = true)
    (kAc : PySem.W.keepIn K (.ref fAc) = true)
    (aL : PySem.W.nsIn K mainGlobals "law" = some (some (.ref fL)))
    (lL : K.lookup fL = some ⟨ocL, odL, .func (PySem.W.fnOf "law" "law" (defArgs sLaw) (defBody sLaw) (defScope sLaw) .none kVL dcL pmL anL cdL ctL), slL⟩)
    (cL : PySem.W.codeIn K cdL "law" = true)
    (kL : PySem.W.keepIn K (.ref fL) = true)
    (z_len : PySem.W.nsIn K mainGlobals "len" = some none)
    (z_int : PySem.W.nsIn K mainGlobals "int" = some none)
    (z_list : PySem.W.nsIn K mainGlobals "list" = some none)
    (z_range : PySem.W.nsIn K mainGlobals "range" = some none)
    (z_min : PySem.W.nsIn K mainGlobals "min" = some none)
    (z_isinstance : PySem.W.nsIn K mainGlobals "isinstance" = some none)
    (z_bool : PySem.W.nsIn K mainGlobals "bool" = some none)
    : ∃ fd : FuncData, (∀ (s : Shared) (v : Value), BindsTo s fd ⟨[v], []⟩ [("script", v)]) ∧ ∀ base : Heap, K.In base → base.Ns mainGlobals mg → FnOk l.prog w K mg base CX0 4 fa fd ["script"] (spLaw K) := by
  have e := hfa.symm.trans (PySem.W.mg_of X G aL)
  cases e
  have B : BB mg := ⟨PySem.W.mg_none_of X G z_len, PySem.W.mg_none_of X G z_int, PySem.W.mg_none_of X G z_list, PySem.W.mg_none_of X G z_range, PySem.W.mg_none_of X G z_min, PySem.W.mg_none_of X G z_isinstance, PySem.W.mg_none_of X G z_bool⟩
  have T : PT9 K mg C := ⟨⟨pg, hd, po, sa⟩, n1, n2, n3, PySem.W.mg_of X G aC⟩
  have FMI := fun_mk (st := (cP 0)) lMI cMI kMI
  have FMS := fun_mk (st := (cP 1)) lMS cMS kMS
  have FML := fun_mk (st := (cP 2)) lML cML kML
  have FMD := fun_mk (st := (cP 3)) lMD cMD kMD
  have FMR := fun_mk (st := (cP 4)) lMR cMR kMR
  have FMB := fun_mk (st := (cP 5)) lMB cMB kMB
  have FMU := fun_mk (st := (cP 6)) lMU cMU kMU
  have FMY := fun_mk (st := (cP 7)) lMY cMY kMY
  have FCe := fun_mk (st := sCell) lCe cCe kCe
  have FDi := fun_mk (st := sDigits) lDi cDi kDi
  have FMa := fun_mk (st := sMany) lMa cMa kMa
  have FAc := fun_mk (st := sAct) lAc cAc kAc
  have FL := fun_mk (st := sLaw) lL cL kL
  have bMI := FMI.binds (ps := ["self"]) fun _ _ _ _ _ _ us hl => match us, hl with | [_], _ => rfl
  have bMS := FMS.binds (ps := ["self", "letter", "to_host"]) fun _ _ _ _ _ _ us hl => match us, hl with | [_, _, _], _ => rfl
  have bML := FML.binds (ps := ["self", "to_host"]) fun _ _ _ _ _ _ us hl => match us, hl with | [_, _], _ => rfl
  have bMD := FMD.binds (ps := ["self", "index", "to_host"]) fun _ _ _ _ _ _ us hl => match us, hl with | [_, _, _], _ => rfl
  have bMR := FMR.binds (ps := ["self", "index", "to_host"]) fun _ _ _ _ _ _ us hl => match us, hl with | [_, _, _], _ => rfl
  have bMB := FMB.binds (ps := ["self", "index", "to_host"]) fun _ _ _ _ _ _ us hl => match us, hl with | [_, _, _], _ => rfl
  have bMU := FMU.binds (ps := ["self", "up"]) fun _ _ _ _ _ _ us hl => match us, hl with | [_, _], _ => rfl
  have bMY := FMY.binds (ps := ["self", "to_host"]) fun _ _ _ _ _ _ us hl => match us, hl with | [_, _], _ => rfl
  have bCe := FCe.binds (ps := ["script", "k"]) fun _ _ _ _ _ _ us hl => match us, hl with | [_, _], _ => rfl
  have bDi := FDi.binds (ps := ["cell", "bases"]) fun _ _ _ _ _ _ us hl => match us, hl with | [_, _], _ => rfl
  have bMa := FMa.binds (ps := ["script", "few", "many"]) fun _ _ _ _ _ _ us hl => match us, hl with | [_, _, _], _ => rfl
  have bAc := FAc.binds (ps := ["path", "lists", "digits", "up"]) fun _ _ _ _ _ _ us hl => match us, hl with | [_, _, _, _], _ => rfl
  refine ⟨PySem.W.fnOf "law" "law" (defArgs sLaw) (defBody sLaw) (defScope sLaw) .none kVL dcL pmL anL cdL ctL, fun s v => .of_eq rfl, fun base _ _ => ?_⟩
  have mMI : Meth K C "__init__" fMI := ⟨aMI, iMI, kMI⟩
  have mMS : Meth K C "send" fMS := ⟨aMS, iMS, kMS⟩
  have mML : Meth K C "letters" fML := ⟨aML, iML, kML⟩
  have mMD : Meth K C "deliver" fMD := ⟨aMD, iMD, kMD⟩
  have mMR : Meth K C "drop" fMR := ⟨aMR, iMR, kMR⟩
  have mMB : Meth K C "double" fMB := ⟨aMB, iMB, kMB⟩
  have mMU : Meth K C "set_up" fMU := ⟨aMU, iMU, kMU⟩
  have mMY : Meth K C "_direction" fMY := ⟨aMY, iMY, kMY⟩
  have dMY := Mth.mk (ok_dir (P := l.prog) (wd := w) (base := base) FMY T) bMY mMY
  have dMS := Mth.mk (ok_send FMS T dMY) bMS mMS
  have dML := Mth.mk (ok_let FML T B dMY) bML mML
  have dMD := Mth.mk (ok_del FMD T B dMY) bMD mMD
  have dMR := Mth.mk (ok_drop FMR T B dMY) bMR mMR
  have dMB := Mth.mk (ok_dbl FMB T B dMY) bMB mMB
  have dMU := Mth.mk (ok_up (P := l.prog) (wd := w) (base := base) FMU T) bMU mMU
  have dCe := Def.mk (ok_cell (P := l.prog) (wd := w) (base := base) FCe B) bCe kCe (PySem.W.mg_of X G aCe)
  have dDi := Def.mk (ok_dig (P := l.prog) (wd := w) (base := base) FDi B) bDi kDi (PySem.W.mg_of X G aDi)
  have dMa := Def.mk (ok_many (P := l.prog) (wd := w) (base := base) FMa B) bMa kMa (PySem.W.mg_of X G aMa)
  have dAc := Def.mk (ok_act FAc T B dMS dMD dMR dMB) bAc kAc (PySem.W.mg_of X G aAc)
  exact ok_law FL T B ⟨mk, aMI, iMI, kc⟩ (ok_init (P := l.prog) (wd := w) (base := base) FMI T) bMI dCe dDi dMa dAc dMU dML
/-- the law row's walk: at most 63 items -/
theorem walk_law {l : PySem.W.OpenLaw} {q : Program} {loose : List Str} {XP : (Str → Option Value) → Heap → Prop} {YP : World → Heap → Prop} {d : DefRec} {K : Params → PySem.W.Frag} (hn : l.most = some 63) (hdf : d.params.defaults = [])
    (hY : ∀ (w : World) (h : Heap), YP w h → (K w.params).In h)
    (F : ∀ (w : World) (mg : Str → Option Value) (fa : Addr) (h : Heap), (K w.params).In h → h.Ns mainGlobals mg → mg d.name = some (.ref fa) →
      ∃ fd : FuncData, (∀ (s : Shared) (u : Value), BindsTo s fd ⟨[u], []⟩ [("script", u)]) ∧ ∀ base : Heap, (K w.params).In base → base.Ns mainGlobals mg → FnOk l.prog w (K w.params) mg base CX0 4 fa fd ["script"] (spLaw (K w.params))) :
    PySem.W.WalkO q loose XP YP l.row.toRowW d [] (fun f vs => PySem.call f vs) :=
  L2.walk_of (n := 63) (k := 4) (x := "script") (CX := fun _ => CX0) (sp := fun w => spLaw (K w.params)) hn (by decide) hdf ⟨rfl, by decide, by decide⟩ hY F (fun _ _ a ns hl _ hS => ⟨a, ns, rfl, hS, hl, fun _ => rfl⟩) fun _ _ _ _ _ z => z
end Sg

set_option Elab.async false
set_option linter.all false
set_option maxRecDepth 100000
set_option maxHeartbeats 8000000
open PySem PySem.W PyProof.Rows
set_option maxRecDepth 100000 in
set_option maxHeartbeats 0 in
theorem PySem.Challenge.cw_spindlegate_k09_letters_on_their_way_holds : PySem.Challenge.rw_spindlegate_k09_letters_on_their_way.Holds := by
  w_on; o_law; k_head; (case hw => w_witness2)
  k_fill
  refine Sg.walk_law (l := PySem.Challenge.rw_spindlegate_k09_letters_on_their_way) rfl rfl (fun w h Y => PySem.W.kIn_of Y) ?F
  case F =>
    intro w mg fa h KX G hmg
    refine' Sg.all_mk KX G hmg ?aC ?pg ?hd ?po ?sa ?mk ?kc ?n1 ?n2 ?n3 ?aMI ?iMI ?lMI ?cMI ?kMI ?aMS ?iMS ?lMS ?cMS ?kMS ?aML ?iML ?lML ?cML ?kML ?aMD ?iMD ?lMD ?cMD ?kMD ?aMR ?iMR ?lMR ?cMR ?kMR ?aMB ?iMB ?lMB ?cMB ?kMB ?aMU ?iMU ?lMU ?cMU ?kMU ?aMY ?iMY ?lMY ?cMY ?kMY ?aCe ?lCe ?cCe ?kCe ?aDi ?lDi ?cDi ?kDi ?aMa ?lMa ?cMa ?kMa ?aAc ?lAc ?cAc ?kAc ?aL ?lL ?cL ?kL ?z_len ?z_int ?z_list ?z_range ?z_min ?z_isinstance ?z_bool
    (case aC => k_is)
    (case pg => k_is)
    (case hd => k_is)
    (case po => k_is)
    (case sa => k_is)
    (case mk => k_is)
    (case kc => k_is)
    (case n1 => k_is)
    (case n2 => k_is)
    (case n3 => k_is)
    (case aMI => k_is)
    (case iMI => k_is)
    (case lMI => k_is)
    (case cMI => k_is)
    (case kMI => k_is)
    (case aMS => k_is)
    (case iMS => k_is)
    (case lMS => k_is)
    (case cMS => k_is)
    (case kMS => k_is)
    (case aML => k_is)
    (case iML => k_is)
    (case lML => k_is)
    (case cML => k_is)
    (case kML => k_is)
    (case aMD => k_is)
    (case iMD => k_is)
    (case lMD => k_is)
    (case cMD => k_is)
    (case kMD => k_is)
    (case aMR => k_is)
    (case iMR => k_is)
    (case lMR => k_is)
    (case cMR => k_is)
    (case kMR => k_is)
    (case aMB => k_is)
    (case iMB => k_is)
    (case lMB => k_is)
    (case cMB => k_is)
    (case kMB => k_is)
    (case aMU => k_is)
    (case iMU => k_is)
    (case lMU => k_is)
    (case cMU => k_is)
    (case kMU => k_is)
    (case aMY => k_is)
    (case iMY => k_is)
    (case lMY => k_is)
    (case cMY => k_is)
    (case kMY => k_is)
    (case aCe => k_is)
    (case lCe => k_is)
    (case cCe => k_is)
    (case kCe => k_is)
    (case aDi => k_is)
    (case lDi => k_is)
    (case cDi => k_is)
    (case kDi => k_is)
    (case aMa => k_is)
    (case lMa => k_is)
    (case cMa => k_is)
    (case kMa => k_is)
    (case aAc => k_is)
    (case lAc => k_is)
    (case cAc => k_is)
    (case kAc => k_is)
    (case aL => k_is)
    (case lL => k_is)
    (case cL => k_is)
    (case kL => k_is)
    (case z_len => k_is)
    (case z_int => k_is)
    (case z_list => k_is)
    (case z_range => k_is)
    (case z_min => k_is)
    (case z_isinstance => k_is)
    (case z_bool => k_is)

