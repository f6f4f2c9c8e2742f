import PyProof.Rows.All
import Wide.All
import OpenK.AllK
import Wide.FinOn
import HandS.ForMost
import HandS.Codes
import HandS.IsInst
import PyProof.ReprReads
import PyProof.ReprRoads
import HandS.Exc
import HandS.ExcOwn
import HandS.ExcInit
import KE.KExcIs
import PyProof.ExcBaseAll.LookupError
import PyProof.ExcBaseAll.OverflowError
import HandS.ExcField
import HandS.ExcValue
import PyProof.P3Eq
import KE.KExcInit
import PySem.Challenge.RW_growthkinds_k70_errors
set_option Elab.async false
set_option maxRecDepth 100000
/-! The draws: the state m (cells, left, at), and one draw. -/
namespace G
open PySem L2 PySem.Spec PyProof.Rows

theorem k1 : ¬ (("cells" : Str) = "left") := by decide +kernel
theorem k2 : ¬ (("cells" : Str) = "at") := by decide +kernel
theorem k3 : ¬ (("left" : Str) = "at") := by decide +kernel
theorem k4 : ¬ (("left" : Str) = "cells") := by decide +kernel
theorem k5 : ¬ (("at" : Str) = "cells") := by decide +kernel
theorem k6 : ¬ (("at" : Str) = "left") := by decide +kernel
theorem ki {a b : Str} (h : ¬ a = b) : ¬ ((Sum.inr a : Key) = Sum.inr b) := fun e => h (Sum.inr.inj e)

/-- the pairs of m -/
def mK (c l : Addr) (t : Int) : List (Key × V) := [(Sum.inr "cells", .ref c), (Sum.inr "left", .ref l), (Sum.inr "at", .int t)]
theorem v_cells (c l : Addr) (t : Int) : valV (mK c l t) (Sum.inr "cells" : Key) = some (.ref c) := by
  unfold mK
  exact valV_pos rfl
theorem v_left (c l : Addr) (t : Int) : valV (mK c l t) (Sum.inr "left" : Key) = some (.ref l) := by
  unfold mK
  rw [valV_neg (ki k1)]
  exact valV_pos rfl
theorem v_at (c l : Addr) (t : Int) : valV (mK c l t) (Sum.inr "at" : Key) = some (.int t) := by
  unfold mK
  rw [valV_neg (ki k2), valV_neg (ki k3)]
  exact valV_pos rfl
theorem p_left (c l l' : Addr) (t : Int) : putK (mK c l t) (Sum.inr "left" : Key) (.ref l') = mK c l' t := by
  unfold putK mK
  simp [k1, k6]
theorem p_at (c l : Addr) (t t' : Int) : putK (mK c l t) (Sum.inr "at" : Key) (.int t') = mK c l t' := by
  unfold putK mK
  simp [k2, k3]

/-- the state of the draws stands at m; what the caller holds (G) stands apart from it -/
structure Ms (G H : Hp) (m c l : Addr) (cs ls : List Int) (t : Int) : Prop where
  sm : Same G H
  gm : G m = none
  gl : G l = none
  gc : G c = none
  hm : H m = some (.dK (mK c l t))
  hc : H c = some (.lst (cs.map V.int))
  hl : H l = some (.lst (ls.map V.int))
  cl : c ≠ l
  nc : cs.length ≤ 1000
  nl : ls.length ≤ 1000
  ge : ∀ x ∈ ls, 0 ≤ x
  t0 : 0 ≤ t
def Mst (G H : Hp) (m : Addr) (T : Int) : Prop := ∃ (c l : Addr) (cs ls : List Int) (t : Int), Ms G H m c l cs ls t ∧ t ≤ T

section
variable {G H H' : Hp} {m c l : Addr} {cs ls : List Int} {t T : Int} {p : Addr} {o o' : HO}
theorem Ms.ml (S : Ms G H m c l cs ls t) : m ≠ l := ne_of S.hm S.hl (by intro z; cases z)
theorem Ms.mc (S : Ms G H m c l cs ls t) : m ≠ c := ne_of S.hm S.hc (by intro z; cases z)
theorem Ms.dLeft (S : Ms G H m c l cs ls t) : DGet H m (.str "left") (some (.ref l)) := by
  have q := DGet.k (k := (Sum.inr "left" : Key)) S.hm
  rw [v_left] at q
  exact q
theorem Ms.dCells (S : Ms G H m c l cs ls t) : DGet H m (.str "cells") (some (.ref c)) := by
  have q := DGet.k (k := (Sum.inr "cells" : Key)) S.hm
  rw [v_cells] at q
  exact q
theorem Ms.dAt (S : Ms G H m c l cs ls t) : DGet H m (.str "at") (some (.int t)) := by
  have q := DGet.k (k := (Sum.inr "at" : Key)) S.hm
  rw [v_at] at q
  exact q
/-- more objects, all kept -/
theorem Ms.same (S : Ms G H m c l cs ls t) (s : Same H H') : Ms G H' m c l cs ls t :=
  ⟨S.sm.trans s, S.gm, S.gl, S.gc, s _ _ S.hm, s _ _ S.hc, s _ _ S.hl, S.cl, S.nc, S.nl, S.ge, S.t0⟩
theorem same_new {H : Hp} {p : Addr} {o : HO} (h : H p = none) : Same H (upd H p o) := fun b u e => by
  rw [upd_ne (ne_of_none e h)]
  exact e
theorem Ms.junk (S : Ms G H m c l cs ls t) (h : H p = none) : Ms G (upd H p o) m c l cs ls t := S.same (same_new h)
/-- a new object, held by the caller -/
theorem Ms.grow (S : Ms G H m c l cs ls t) (h : H p = none) : Ms (upd G p o) (upd H p o) m c l cs ls t := by
  have nm := ne_of_none S.hm h
  have nl := ne_of_none S.hl h
  have nc := ne_of_none S.hc h
  refine ⟨fun b u e => ?_, by rw [upd_ne nm]; exact S.gm, by rw [upd_ne nl]; exact S.gl, by rw [upd_ne nc]; exact S.gc, by rw [upd_ne nm]; exact S.hm, by rw [upd_ne nc]; exact S.hc, by rw [upd_ne nl]; exact S.hl, S.cl, S.nc, S.nl, S.ge, S.t0⟩
  by_cases hb : b = p
  · subst hb
    rw [upd_same] at e ⊢
    exact e
  · rw [upd_ne hb] at e ⊢
    exact S.sm _ _ e
/-- what the caller holds is written -/
theorem Ms.write (S : Ms G H m c l cs ls t) (h : G p = some o') : Ms (upd G p o) (upd H p o) m c l cs ls t := by
  have nm : m ≠ p := fun e => by
    rw [← e, S.gm] at h
    cases h
  have nl : l ≠ p := fun e => by
    rw [← e, S.gl] at h
    cases h
  have nc : c ≠ p := fun e => by
    rw [← e, S.gc] at h
    cases h
  refine ⟨fun b u e => ?_, by rw [upd_ne nm]; exact S.gm, by rw [upd_ne nl]; exact S.gl, by rw [upd_ne nc]; exact S.gc, by rw [upd_ne nm]; exact S.hm, by rw [upd_ne nc]; exact S.hc, by rw [upd_ne nl]; exact S.hl, S.cl, S.nc, S.nl, S.ge, S.t0⟩
  by_cases hb : b = p
  · subst hb
    rw [upd_same] at e ⊢
    exact e
  · rw [upd_ne hb] at e ⊢
    exact S.sm _ _ e
theorem Mst.same (S : Mst G H m T) (s : Same H H') : Mst G H' m T :=
  let ⟨c, l, cs, ls, t, M, e⟩ := S
  ⟨c, l, cs, ls, t, M.same s, e⟩
theorem Mst.junk (S : Mst G H m T) (h : H p = none) : Mst G (upd H p o) m T := S.same (same_new h)
theorem Mst.grow (S : Mst G H m T) (h : H p = none) : Mst (upd G p o) (upd H p o) m T :=
  let ⟨c, l, cs, ls, t, M, e⟩ := S
  ⟨c, l, cs, ls, t, M.grow h, e⟩
theorem Mst.write (S : Mst G H m T) (h : G p = some o') : Mst (upd G p o) (upd H p o) m T :=
  let ⟨c, l, cs, ls, t, M, e⟩ := S
  ⟨c, l, cs, ls, t, M.write h, e⟩
theorem Mst.sm (S : Mst G H m T) : Same G H := let ⟨_, _, _, _, _, M, _⟩ := S; M.sm
theorem Mst.mono {T' : Int} (S : Mst G H m T) (h : T ≤ T') : Mst G H m T' :=
  let ⟨c, l, cs, ls, t, M, e⟩ := S
  ⟨c, l, cs, ls, t, M, Int.le_trans e h⟩
end

/-! ### lists of ints as data -/
theorem dp_ints {K : PySem.W.Frag} {H : Hp} : ∀ ns : List Int, DpAll K H (ns.map V.int) (ns.map PyData.int)
  | [] => .nil
  | n :: ns => .cons (.int n) (dp_ints ns)
theorem lay_ints : ∀ ns : List Int, PyData.canLayAll0 (ns.map PyData.int) = true
  | [] => by simp [PyData.canLayAll0]
  | n :: ns => by simp [PyData.canLayAll0, PyData.canLay0, lay_ints ns]
theorem depth_ints : ∀ ns : List Int, PyData.depthAll (ns.map PyData.int) ≤ 1
  | [] => by simp [PyData.depthAll]
  | n :: ns => by
    have h := depth_ints ns
    simp only [List.map_cons, PyData.depthAll, PyData.depth]
    omega
theorem shaped_ints (ns : List Int) : SeqAt.shaped (.list (ns.map PyData.int)) = true := by
  have h := depth_ints ns
  unfold SeqAt.shaped
  rw [Bool.and_eq_true, decide_eq_true_eq]
  refine ⟨?_, ?_⟩
  · simp only [PyData.canLay0]
    exact lay_ints ns
  · simp only [PyData.depth]
    omega
theorem eqv_nil : ∀ ns : List Int, PyData.eqv (.list (ns.map PyData.int)) (.list []) = ns.isEmpty
  | [] => by simp [PyData.eqv, PyData.eqvAll]
  | n :: ns => by simp [PyData.eqv, PyData.eqvAll]
/-- xs != [] of ints -/
def rNeE (K : PySem.W.Frag) : R2 := fun x y H Q => ∃ (a b : Addr) (ns : List Int), x = .ref a ∧ y = .ref b ∧ SqL K H a (ns.map V.int) ∧ SqL K H b [] ∧ Q (.bl (!ns.isEmpty)) H
section
variable {X : Cx}
theorem op_neE (hu : X.A.units + 64 < cLine) : OpR X (compareOp .NotEq) (rNeE X.K) := by
  intro pins s σ H x y v u Q I rx ry h
  obtain ⟨a, b, ns, rfl, rfl, ha, hb, q⟩ := h
  refine op_neD hu pins s σ H _ _ v u Q I rx ry ⟨.list (ns.map PyData.int), .list [], .lst ha (dp_ints ns), .lst hb .nil, shaped_ints ns, shaped_ints [], ?_⟩
  rw [eqv_nil]
  exact q
end
theorem hu64 {k : Nat} {A : Around} (r : Room k A) : A.units + 64 < cLine := by
  have := r.un
  omega
end G

set_option Elab.async false
set_option maxRecDepth 100000
namespace G
open PySem L2 PySem.Spec PyProof.Rows
theorem at0 {x : Int} {xs : List Int} : atI ((x :: xs).map V.int) 0 = some (.int x) := atI_nat (j := 0) rfl
theorem ix0 {x : Int} {xs : List Int} : ixN ((x :: xs).map V.int).length 0 = some 0 := by
  unfold ixN
  rw [if_pos (by decide), if_pos (by rw [List.length_map, List.length_cons]; omega)]
  rfl
theorem cut1 {x : Int} {xs : List Int} : cutV ((x :: xs).map V.int) (some 1) none = xs.map V.int := by
  have e : HT.sIx ((x :: xs).map V.int).length 0 (some 1) = 1 := by
    unfold HT.sIx
    rw [List.length_map, List.length_cons]
    show (if (1 : Int) < 0 then _ else min 1 (xs.length + 1)) = 1
    rw [if_neg (by decide)]
    omega
  unfold cutV
  rw [e]
  show (xs.map V.int).take _ = _
  rw [HT.sIx_none]
  refine List.take_of_length_le ?_
  rw [List.length_map, List.length_map, List.length_cons]
  omega
theorem mod_at {xs : List V} {j : Int} (h0 : 0 ≤ j) (h1 : j < xs.length) : ∃ v, atI xs j = some v ∧ v ∈ xs := by
  have hn : j.toNat < xs.length := by omega
  refine ⟨xs[j.toNat], ?_, List.getElem_mem hn⟩
  have q := atI_nat (xs := xs) (j := j.toNat) (v := xs[j.toNat]) (by simp [hn])
  rw [Int.toNat_of_nonneg h0] at q
  exact q
theorem Ms.left' {G H : Hp} {m c l q : Addr} {cs ls ls' : List Int} {t : Int} (S : Ms G H m c l cs ls t) (hG : G q = none) (hq : H q = some (.lst (ls'.map V.int))) (nq : q ≠ m) (nc : c ≠ q) (hn : ls'.length ≤ ls.length) (hg : ∀ x ∈ ls', 0 ≤ x) : Ms G (upd H m (.dK (mK c q t))) m c q cs ls' t := by
  refine ⟨fun b u e => ?_, S.gm, hG, S.gc, upd_same, by rw [upd_ne S.mc.symm]; exact S.hc, by rw [upd_ne nq]; exact hq, nc, S.nc, Nat.le_trans hn S.nl, hg, S.t0⟩
  rw [upd_ne (fun z => by rw [z, S.gm] at e; cases e)]
  exact S.sm _ _ e
theorem Ms.at' {G H : Hp} {m c l : Addr} {cs ls : List Int} {t t' : Int} (S : Ms G H m c l cs ls t) (h0 : 0 ≤ t') : Ms G (upd H m (.dK (mK c l t'))) m c l cs ls t' := by
  refine ⟨fun b u e => ?_, S.gm, S.gl, S.gc, upd_same, by rw [upd_ne S.mc.symm]; exact S.hc, by rw [upd_ne S.ml.symm]; exact S.hl, S.cl, S.nc, S.nl, S.ge, h0⟩
  rw [upd_ne (fun z => by rw [z, S.gm] at e; cases e)]
  exact S.sm _ _ e
theorem Ms.first {G H : Hp} {m c l : Addr} {cs ls : List Int} {x y t : Int} (S : Ms G H m c l cs (x :: ls) t) (h0 : 0 ≤ y) : Ms G (upd H l (.lst (((x :: ls).map V.int).set 0 (.int y)))) m c l cs (y :: ls) t := by
  refine ⟨fun b u e => ?_, S.gm, S.gl, S.gc, by rw [upd_ne S.ml]; exact S.hm, by rw [upd_ne S.cl]; exact S.hc, upd_same, S.cl, S.nc, S.nl, fun z hz => ?_, S.t0⟩
  · rw [upd_ne (fun z => by rw [z, S.gl] at e; cases e)]
    exact S.sm _ _ e
  · rcases List.mem_cons.mp hz with z' | z'
    · subst z'
      exact h0
    · exact S.ge z (List.mem_cons_of_mem _ z')
def top (i : Nat) : Stmt := PySem.Challenge.pw_growthkinds_k70_errors.main.body.getD i (.Pass ⟨0, 0, 0, 0⟩)
abbrev sNext : Stmt := top 13
def spNext : Sp := fun vs H Q _ => ∃ (m : Addr) (many : Int) (G : Hp) (T : Int), vs = [.ref m, .int many] ∧ Mst G H m T ∧ T ≤ 1000000000 ∧ 1 ≤ many ∧ many < 1073741824 ∧
  ∀ (r : Int) (H' : Hp), 0 ≤ r → r < many → Mst G H' m (T + 1) → Q (.int r) H'
structure TxN (mg : Str → Option Value) : Prop where
  int : mg "int" = none
  len : mg "len" = none
theorem boot_int : bootBuiltins "int" = some (.type "int") := by decide +kernel
section
variable {P : Program} {w : World} {K : PySem.W.Frag} {mg : Str → Option Value} {base : Heap}
theorem scN : FnScope ["m", "many", "rest", "at", "bits", "cell", "blend"] ["m", "many"] (defScope sNext) := ⟨rfl, rfl, rfl, by decide +kernel, rfl, by decide +kernel, by decide +kernel⟩
theorem ok_next {f : Addr} {fd : FuncData} (F : Fun K "_law_next" "_law_next" sNext f fd) (T : TxN mg) : FnOk P w K mg base CX0 1 f fd ["m", "many"] spNext := by
  refine F.ok scN (fun vs H Q E h => ?_) (fun cdv A outer s H vs Q E hr h => ?_)
  · obtain ⟨m, many, G, T, rfl, _⟩ := h
    rfl
  · obtain ⟨m, many, G, Tm, rfl, ⟨c, l, cs, ls, t, M, ht⟩, hT, h1, h2, k⟩ := h
    have hu := hu_of hr
    have h64 := hu64 hr
    refine ⟨_, C8.pss_cut (ps_while PassesOwn.never (pw_and (pt_cmpR (op_neE h64) (pe_dget hu (pv 0) pe_str (fun _ _ => rfl)) (pe_lst pa_nil) (nomark _)) (pw_and1 (pt_cmpR op_eq (pe_ix ix_list (pe_dget hu (pv 0) pe_str (fun _ _ => rfl)) pe_int (fun _ _ => rfl)) pe_int (nomark _)))).pt
          (pss_one (ps_dput hu (pv 0) pe_str (pe_slice sl_list (pe_dget hu (pv 0) pe_str (fun _ _ => rfl)) (po_some pe_int) po_none) rfl)))
      (pss_cons (ps_if (pt_cmpR (op_neE h64) (pe_dget hu (pv 0) pe_str (fun _ _ => rfl)) (pe_lst pa_nil) (nomark _))
          (pss_cons (ps_set (i := 2) scN.nd rfl (Or.inl rfl) (pe_ix ix_list (pe_dget hu (pv 0) pe_str (fun _ _ => rfl)) pe_int (fun _ _ => rfl)))
          (pss_cons (ps_asg (pe_op op_fdiv (pv 2) (pv 1)) (pg_sub (pe_dget hu (pv 0) pe_str (fun _ _ => rfl)) pe_int set_list))
          (pss_one (ps_ret (pe_op op_mod (pe_callTy call_int1 (by rfl) T.int boot_int (pa_cons (pv 2) pa_nil)) (pv 1))))))
          pss_nil)
      (pss_cons (ps_par (i := 3) (j := 4) rfl scN.nd rfl rfl (by decide) rfl rfl (pa_cons (pe_op op_add (pe_dget hu (pv 0) pe_str (fun _ _ => rfl)) pe_int) (pa_cons (pe_dget hu (pv 0) pe_str (fun _ _ => rfl)) pa_nil)) rfl)
      (pss_cons (ps_dput hu (pv 0) pe_str (pv 3) rfl)
      (C8.pss_cut (ps_set (i := 5) scN.nd rfl (Or.inl rfl) (pe_ifExp (pt_cmpR (op_neE h64) (pv 4) (pe_lst pa_nil) (nomark _))
          (pe_callTy call_int1 (by rfl) T.int boot_int (pa_cons (pe_ix ix_list (pv 4) (pe_op op_mod (pe_callTy call_int1 (by rfl) T.int boot_int (pa_cons (pe_op op_add (pe_op op_mul (pv 3) (pv 3)) (pe_op op_fdiv (pv 3) pe_int)) pa_nil)) (pe_callB call_len_seq (by rfl) T.len PySem.boot_len (pa_cons (pv 4) pa_nil))) (fun _ _ => rfl)) pa_nil))
          pe_int))
      (pss_cons (ps_set (i := 6) scN.nd rfl (Or.inl rfl) (pe_op op_mod (pe_callTy call_int1 (by rfl) T.int boot_int (pa_cons (pe_op op_add (pe_op op_add (pe_op op_mul (pv 5) pe_int) (pe_op op_mul (pv 3) pe_int)) (pe_op op_mul (pe_op op_mul pe_int (pv 3)) (pv 3))) pa_nil)) pe_int))
      (pss_one (ps_ret (pe_op op_mod (pe_callTy call_int1 (by rfl) T.int boot_int (pa_cons (pe_op op_fdiv (pe_op op_mod (pe_callTy call_int1 (by rfl) T.int boot_int (pa_cons (pe_op op_add (pe_op op_mul (pv 6) pe_int) (pe_op op_mul pe_int (pv 3))) pa_nil)) pe_int) pe_int) pa_nil)) (pv 1))))))))), ?_⟩
    refine ⟨fun σ H' => σ = [some (.ref m), some (.int many), none, none, none, none, none] ∧ ∃ (l : Addr) (ls : List Int), Ms G H' m c l cs ls t, ?_, ?_⟩
    · -- the while
      refine ⟨fun n σ H' => σ = [some (.ref m), some (.int many), none, none, none, none, none] ∧ ∃ (l : Addr) (ls : List Int), Ms G H' m c l cs ls t ∧ ls.length = n, ⟨_, rfl, l, ls, M, rfl⟩, ?_⟩
      rintro n σ H' ⟨rfl, l, ls, M, rfl⟩
      refine ⟨_, rfl, m, _, rfl, M.dLeft, Nat.zero_le _, fun p hp => ?_⟩
      have M1 := M.junk (o := .lst []) hp
      refine ⟨l, p, ls, rfl, rfl, SqL.of M1.hl, SqL.of upd_same, _, rfl, ?_⟩
      cases ls with
      | nil => exact iteF (iteF ⟨rfl, l, _, M1⟩)
      | cons x xs =>
        refine iteT ?_
        refine ⟨_, rfl, m, _, rfl, M1.dLeft, l, _, 0, .int x, rfl, rfl, SqL.of M1.hl, at0, rfl, _, rfl, ?_⟩
        by_cases hx : x = 0
        · subst hx
          rw [decide_eq_true rfl]
          refine iteT ⟨_, fun σ' H' h => ⟨xs.length, Nat.lt_succ_self _, h⟩, ?_⟩
          refine ⟨_, rfl, m, _, rfl, M1.dLeft, 1, rfl, l, _, rfl, SqL.of M1.hl, fun q hq => ?_⟩
          have M2 := M1.junk (o := .lst (cutV ((0 :: xs).map V.int) (some 1) none)) hq
          refine ⟨_, rfl, m, _, rfl, DPut.k (k := Sum.inr "left") M2.hm (by show 3 < sizeLine; decide), rfl, q, xs, ?_, rfl⟩
          rw [p_left]
          exact M2.left' (M1.sm.free hq) (by rw [upd_same, cut1]) (ne_of_none M1.hm hq).symm (ne_of_none M1.hc hq) (Nat.le_succ _) fun y hy => M2.ge y (List.mem_cons_of_mem _ hy)
        · rw [decide_eq_false (fun e => hx (V.int.inj e))]
          exact iteF ⟨rfl, l, _, M1⟩
    · rintro σ H' ⟨rfl, l, ls, M⟩
      refine ⟨_, rfl, m, _, rfl, M.dLeft, Nat.zero_le _, fun p hp => ?_⟩
      have M1 := M.junk (o := .lst []) hp
      refine ⟨l, p, ls, rfl, rfl, SqL.of M1.hl, SqL.of upd_same, _, rfl, ?_⟩
      cases ls with
      | cons x xs =>
        refine iteT ?_
        have hx : 0 ≤ x := M1.ge x (List.mem_cons_self ..)
        refine ⟨_, rfl, m, _, rfl, M1.dLeft, l, _, 0, .int x, rfl, rfl, SqL.of M1.hl, at0, ?_⟩
        refine ⟨_, rfl, _, rfl, _, _, rfl, rfl, ⟨by omega, h2⟩, ?_⟩
        refine ⟨_, rfl, m, _, rfl, M1.dLeft, l, _, 0, 0, rfl, rfl, M1.hl, ix0, ?_⟩
        have M2 := M1.first (y := x / many) (Int.ediv_nonneg hx (by omega))
        refine ⟨_, rfl, .inl ⟨_, rfl, ?_⟩⟩
        refine ⟨_, rfl, _, _, rfl, rfl, by omega, ?_⟩
        exact k _ _ (Int.emod_nonneg _ (by omega)) (Int.emod_lt_of_pos _ (by omega)) ⟨c, l, cs, _, t, M2, by omega⟩
      | nil =>
        refine iteF ?_
        have t0 := M1.t0
        refine ⟨_, rfl, m, _, rfl, M1.dAt, _, _, rfl, rfl, _, rfl, m, _, rfl, M1.dCells, _, _, rfl, ?_⟩
        refine ⟨_, rfl, _, rfl, m, _, rfl, DPut.k (k := Sum.inr "at") M1.hm (by show 3 < sizeLine; decide), ?_⟩
        rw [p_at]
        have M2 := M1.at' (t' := t + 1) (by omega)
        have tl : -(2 ^ 64) < t + 1 ∧ t + 1 < 2 ^ 64 := ⟨by omega, by omega⟩
        refine ⟨fun σ' H' => ∃ z : Int, σ' = [some (.ref m), some (.int many), none, some (.int (t + 1)), some (.ref c), some (.int z), none] ∧ Mst G H' m (Tm + 1), ?_, ?_⟩
        · refine ⟨_, rfl, Nat.zero_le _, fun q hq => ?_⟩
          have M3 := M2.junk (o := .lst []) hq
          refine ⟨c, q, cs, rfl, rfl, SqL.of M3.hc, SqL.of upd_same, _, rfl, ?_⟩
          have M4 : Mst G _ m (Tm + 1) := ⟨c, l, cs, _, t + 1, M3, by omega⟩
          cases cs with
          | nil => exact iteF ⟨5, rfl, M4⟩
          | cons y ys =>
            refine iteT ?_
            refine ⟨_, rfl, _, rfl, _, rfl, _, _, rfl, rfl, .inl tl, _, rfl, _, _, rfl, rfl, ⟨by decide, by decide⟩, _, _, rfl, rfl, .inl ⟨_, rfl, ?_⟩⟩
            refine ⟨_, rfl, c, _, rfl, .inl (SqL.of M3.hc), _, _, rfl, rfl, ?_, ?_⟩
            · rw [List.length_map, List.length_cons]
              omega
            · obtain ⟨v, hv, hm⟩ := mod_at (xs := (y :: ys).map V.int) (j := ((t + 1) * (t + 1) + (t + 1) / 2) % (((y :: ys).map V.int).length : Int)) (Int.emod_nonneg _ (by rw [List.length_map, List.length_cons]; omega)) (Int.emod_lt_of_pos _ (by rw [List.length_map, List.length_cons]; omega))
              obtain ⟨z, _, rfl⟩ := List.mem_map.mp hm
              exact ⟨c, _, _, _, rfl, rfl, SqL.of M3.hc, hv, .inl ⟨_, rfl, z, rfl, M4⟩⟩
        · rintro σ' H' ⟨z, rfl, M4⟩
          refine ⟨_, rfl, _, _, rfl, rfl, .inr ⟨by decide, by decide⟩, _, rfl, _, _, rfl, rfl, .inr ⟨by decide, by decide⟩, _, _, rfl, rfl, ?_⟩
          refine ⟨_, rfl, _, _, rfl, rfl, .inl ⟨by decide, by decide⟩, _, rfl, _, _, rfl, rfl, .inr tl, _, _, rfl, rfl, .inl ⟨_, rfl, ?_⟩⟩
          refine ⟨_, _, rfl, rfl, (by show (0 : Int) < 2147483399; decide), ?_⟩
          refine ⟨_, rfl, _, _, rfl, rfl, .inr ⟨by decide, by decide⟩, _, rfl, _, _, rfl, rfl, .inl ⟨by decide, by decide⟩, _, _, rfl, rfl, .inl ⟨_, rfl, ?_⟩⟩
          refine ⟨_, _, rfl, rfl, (by show (0 : Int) < 2147483647; decide), _, _, rfl, rfl, ⟨by decide, by decide⟩, .inl ⟨_, rfl, ?_⟩⟩
          refine ⟨_, rfl, _, _, rfl, rfl, by omega, ?_⟩
          exact k _ _ (Int.emod_nonneg _ (by omega)) (Int.emod_lt_of_pos _ (by omega)) M4
end
end G

set_option Elab.async false
set_option maxRecDepth 100000
namespace G
open PySem L2 PySem.Spec PyProof.Rows
abbrev sBegun : Stmt := top 12
def spBegun (K : PySem.W.Frag) : Sp := fun vs H Q _ => ∃ (a : Addr) (ns : List Int), vs = [.ref a] ∧ SqL K H a (ns.map V.int) ∧ ns.length ≤ 63 ∧
  ∀ (m : Addr) (H' : Hp), Mst H H' m 0 → Q (.ref m) H'
theorem boot_list : bootBuiltins "list" = some (.type "list") := by decide +kernel
structure TxB (mg : Str → Option Value) : Prop where
  list : mg "list" = none
theorem merge3 (c l : Addr) (t : Int) : mergeK [] (mK c l t) = mK c l t := by
  unfold mergeK mK
  simp [putK, k1, k2, k3]
section
variable {P : Program} {w : World} {K : PySem.W.Frag} {mg : Str → Option Value} {base : Heap}
theorem scB : FnScope ["script", "cell"] ["script"] (defScope sBegun) := ⟨rfl, rfl, rfl, by decide +kernel, rfl, by decide +kernel, by decide +kernel⟩
theorem ok_begun {f : Addr} {fd : FuncData} (F : Fun K "_law_begun" "_law_begun" sBegun f fd) (T : TxB mg) : FnOk P w K mg base CX0 1 f fd ["script"] (spBegun K) := by
  refine F.ok scB (fun vs H Q E h => ?_) (fun cdv A outer s H vs Q E hr h => ?_)
  · obtain ⟨a, ns, rfl, _⟩ := h
    rfl
  · obtain ⟨a, ns, rfl, hS, hlen, k⟩ := h
    have hu := hu_of hr
    refine ⟨_, pss_one (ps_ret (pe_disp (pps_cons pe_str (pe_callTy call_list_of (by rfl) T.list boot_list (pa_cons (pv 0) pa_nil))
      (pps_cons pe_str (pe_lc (own := [("cell", 1)]) (g := gName 1) (by rfl) scB.nd (pi_list (pv 0)) (blkOk_by (own := [("cell", 1)]) (N := ["script", "cell"]) (sc := defScope sBegun) (by decide +kernel)) (fun _ _ _ _ _ => pg_name (i := 1) scB.nd rfl (Or.inl rfl)) (fun _ _ _ _ _ => pts_one (pt_cmpR op_ge (pv 1) (pe_op op_pow pe_int pe_int) (nomark _))) (fun _ _ _ _ _ => pv 1))
      (pps_cons pe_str pe_int pps_nil))) rfl rfl (by simp) (by decide))), ?_⟩
    intro m hm
    refine ⟨_, rfl, a, _, rfl, .inl ((same_new hm).seq hS), fun c hc => ?_⟩
    have s1 : Same H (upd (upd H m (.dK [])) c (.lst (ns.map V.int))) := (same_new hm).trans (same_new hc)
    refine ⟨_, rfl, a, rfl, ⟨_, s1.seq hS⟩, fun l hl => lc_list (xs := ns.map V.int) (fun i H' => ∃ ls : List Int, H' = upd (upd (upd H m (.dK [])) c (.lst (ns.map V.int))) l (.lst (ls.map V.int)) ∧ ls.length ≤ i ∧ ∀ x ∈ ls, 0 ≤ x)
      ⟨[], rfl, Nat.le_refl _, fun _ z => nomatch z⟩ (fun i H' _ ⟨ls, e, _⟩ => by rw [e]; exact (s1.trans (same_new hl)).seq hS) ?_ ?_⟩
    · rintro i x H' hx ⟨ls, rfl, hn, hp⟩
      obtain ⟨z, hz, rfl⟩ : ∃ z, ns[i]? = some z ∧ x = V.int z := by
        rw [List.getElem?_map] at hx
        cases e : ns[i]? with
        | none =>
          rw [e] at hx
          cases hx
        | some z =>
          rw [e] at hx
          exact ⟨z, rfl, (Option.some.inj hx).symm⟩
      have hi : i < ns.length := (List.getElem?_eq_some_iff.mp hz).1
      refine ⟨rfl, _, rfl, _, _, rfl, rfl, ⟨by decide, by decide, by decide⟩, _, _, rfl, rfl, _, rfl, ?_⟩
      refine ite2 (fun h => ?_) (fun h => ?_)
      · have h' := of_decide_eq_true h
        refine ⟨_, rfl, _, upd_same, Nat.lt_of_le_of_lt (by rw [List.length_map]; exact hn) (Nat.lt_of_lt_of_le hi (Nat.le_trans hlen (by decide))), ls ++ [z], ?_, ?_, ?_⟩
        · rw [upd_upd, List.map_append]
          rfl
        · rw [List.length_append, List.length_singleton]
          omega
        · intro y hy
          rcases List.mem_append.mp hy with q | q
          · exact hp y q
          · rw [List.mem_singleton] at q
            subst q
            exact Int.le_trans (by decide) h'
      · exact ⟨ls, rfl, Nat.le_succ_of_le hn, hp⟩
    · rintro H' ⟨ls, rfl, hn, hp⟩
      have ncm : c ≠ m := fun e => by
        rw [e, upd_same] at hc
        cases hc
      have nlm : l ≠ m := fun e => by
        rw [e, upd_ne ncm.symm, upd_same] at hl
        cases hl
      have ncl : c ≠ l := fun e => by
        rw [← e, upd_same] at hl
        cases hl
      have hc0 : H c = none := by
        rw [upd_ne ncm] at hc
        exact hc
      have hl0 : H l = none := by
        rw [upd_ne ncl.symm, upd_ne nlm] at hl
        exact hl
      refine ⟨?_, mK c l 0, rfl, (by show 3 ≤ 15; decide), ?_⟩
      · rw [upd_ne nlm.symm, upd_ne ncm.symm, upd_same]
      · rw [merge3]
        refine k m _ ⟨c, l, ns, ls, 0, ⟨fun b u e => ?_, hm, hl0, hc0, upd_same, ?_, ?_, ncl, by omega, ?_, hp, Int.le_refl _⟩, Int.le_refl _⟩
        · rw [upd_ne (ne_of_none e hm)]
          exact (s1.trans (same_new hl)) _ _ e
        · rw [upd_ne ncm, upd_ne ncl, upd_same]
        · rw [upd_ne nlm, upd_same]
        · rw [List.length_map] at hn
          omega
end
end G

set_option Elab.async false
set_option maxRecDepth 100000
/-! Defs that run where no repr is under way (the guards are empty): the promise, its call, the law's own call. -/
namespace G
open PySem L2 PySem.Spec PyProof.Rows

/-- a def's promise where no repr is under way -/
structure FnG (P : Program) (w : World) (K : PySem.W.Frag) (mg : Str → Option Value) (base : Heap) (CX : CXT) (k : Nat)
    (f : Addr) (fd : FuncData) (ps : List Str) (sp : Sp) : Prop where
  len : ∀ vs H Q E, sp vs H Q E → vs.length = ps.length
  go : ∀ (A : Around) (fr : List Env) (s : Shared) (H : Hp) (ar : Args) (us : List Value) (vs : List V) (Q : VK) (E : XK),
    A.guards = some [] → Room k A → Env0 P w K mg base A fr s H → BindsTo s fd ar (ps.zip us) → Vals vs us → sp vs H Q E →
    codeAny (model P w) A (.call (.ref f) ar) (CR CX fr P w H s Q E) s
section
variable {P : Program} {w : World} {K : PySem.W.Frag} {mg : Str → Option Value} {base : Heap} {CX : CXT} {k : Nat} {f : Addr} {fd : FuncData} {ps N : List Str} {sp : Sp}
theorem FnG.of (F : FnOk P w K mg base CX k f fd ps sp) : FnG P w K mg base CX k f fd ps sp :=
  ⟨F.len, fun A fr s H ar us vs Q E _ => F.run A fr s H ar us vs Q E⟩
theorem FnG.mono {j : Nat} (F : FnG P w K mg base CX j f fd ps sp) (h : j ≤ k) : FnG P w K mg base CX k f fd ps sp :=
  ⟨F.len, fun A fr s H ar us vs Q E hg hr => F.go A fr s H ar us vs Q E hg (hr.mono h)⟩
theorem okG0 {x qual : Str} {st : Stmt} (F : Fun K x qual st f fd) (S : FnScope N ps (defScope st))
    (len : ∀ vs H Q E, sp vs H Q E → vs.length = ps.length)
    (body : ∀ (cd : Value) (A : Around) (fr : List Env) (s : Shared) (H : Hp) (vs : List V) (Q : VK) (E : XK),
      A.guards = some [] → Room k (A.deeper (envOfC qual (defScope st) s.heap.objs.size f cd)) → sp vs H Q E →
      ∃ t, PSs (cxOf CX P w K mg base N qual (defScope st) f cd A fr s H E) (defBody st) t ∧ t ⟨fun _ H' => Q .non H', Q, fun _ _ => False, fun _ _ => False⟩ (start N vs) H) :
    FnG P w K mg base CX (k + 1) f fd ps sp := by
  obtain ⟨oc, od, kV, doc, pm, an, cd, ct, osl, rfl, lk, hc⟩ := F.ex
  refine ⟨len, fun A fr s H ar us vs Q E hg hr env bt rel hsp => ?_⟩
  have inK : K.In s.heap := env.mod.kin.keeps fun b o e => (env.bs b o e).1
  have room := env.mod.nolimit.keeps fun b o e => (env.bs b o e).1
  have kinds : ∀ y ∈ ps.zip us, (defScope st).names.lookup y.1 = some .local ∨
      ((defScope st).names.lookup y.1 = some .cell ∧
        ((cellsFrom (s.heap.objs.size + 1) (defScope st).names []).lookup y.1).isSome = true) := by
    rintro ⟨n, v⟩ hy
    cases S.par n (List.of_mem_zip hy).1 with
    | inl q => exact .inl q
    | inr q => exact .inr ⟨q, PySem.W.cellsFrom_some _ _ _ (.inl q)⟩
  refine codeAny_call_function hr.depth (inK _ _ lk) rfl S.co S.gen rfl
    (PySem.W.codeRec_of inK hc) (bt _ _ _ _ ?_)
  refine wpAny_newFunctionEnv_cells S.kind kinds
    fun e1 h1 s1 inC => ?_
  subst h1
  refine ⟨room.keeps inC.toInCall.keep, codeAny_func ?_⟩
  obtain ⟨t, pss, rd⟩ := body cd A fr s H vs Q E hg (hr.deeper _) hsp
  have J := inv_start (CX := CX) (P := P) (mg := mg) (base := base) (E := E) S hr.hd env (len _ _ _ _ hsp) rel inC
  refine wpAny_mono (pss.run [] s1 (start N vs) H _ J rd)
    (fun fl s2 z => ?_) fun e s2 z => z
  cases fl with
  | ret u =>
    obtain ⟨v, σ2, H2, I2, r2, q2⟩ := z
    exact ⟨v, H2, I2.os, I2.bare, I2.base, I2.hok, r2, q2⟩
  | next =>
    obtain ⟨σ2, H2, I2, q2⟩ := z
    exact ⟨.non, H2, I2.os, I2.bare, I2.base, I2.hok, rfl, q2⟩
  | brk =>
    obtain ⟨_, _, _, no⟩ := z
    exact no.elim
  | cont =>
    obtain ⟨_, _, _, no⟩ := z
    exact no.elim
end
section
variable {P : Program} {w : World} {K : PySem.W.Frag} {mg : Str → Option Value} {base : Heap} {k : Nat} {f : Addr} {fd : FuncData} {ps N : List Str} {sp : Sp}
/-- a def that lets no exception out -/
theorem okG {x qual : Str} {st : Stmt} (F : Fun K x qual st f fd) (S : FnScope N ps (defScope st))
    (len : ∀ vs H Q E, sp vs H Q E → vs.length = ps.length)
    (body : ∀ (cd : Value) (A : Around) (fr : List Env) (s : Shared) (H : Hp) (vs : List V) (Q : VK) (E : XK),
      A.guards = some [] → Room k (A.deeper (envOfC qual (defScope st) s.heap.objs.size f cd)) → sp vs H Q E →
      ∃ t, PSs (cxOf CX0 P w K mg base N qual (defScope st) f cd A fr s H E).nox (defBody st) t ∧ t { nx := fun _ H' => Q .non H', rt := Q } (start N vs) H) :
    FnG P w K mg base CX0 (k + 1) f fd ps sp :=
  okG0 F S len fun cd A fr s H vs Q E hg hr h =>
    let ⟨t, p, q⟩ := body cd A fr s H vs Q E hg hr h
    ⟨t, p.nox, q⟩
end
section
variable {X : Cx} {CX : CXT} {k : Nat} {f : Addr} {fd : FuncData} {ps : List Str} {sp : Sp} {dvs : List V} {ds : List Value} {E : XK} {x : Str} {p pos : Pos} {e : Expr} {es : List Expr} {t : TA}
/-- the call of such a def -/
theorem pe_callG (gd : X.A.guards = some []) (F : FnG X.prog X.w X.K X.mg X.base CX k f fd ps sp) (hr : Room k X.A) (hg : Gl X x) (hm : X.mg x = some (.ref f))
    (hk : PySem.W.keepIn X.K (.ref f) = true) (hb : Binds X.K fd ps ds) (hd : Vals dvs ds) (hx : Passes CX X E) (ha : PA X (e :: es) t)
    (hdb : (x == ("__debug__" : Str)) = false := by decide)
    (he : starEach (e :: es) X.env = (false, eval e X.env) :: starEach es X.env := by rfl)
    (hpl : (backTo pos (starEach es X.env)).any (·.1) = false := by rfl) :
    PE X (.Call (.Name x p) (e :: es) [] pos) (tCall sp dvs E t) := by
  refine ⟨fun pins s σ H Q I h => ?_⟩
  refine wpAny_Call_Name_kw (ld_glob I hg hm ?_ hdb)
  refine PySem.W.callWith_K (h₀ := X.base) I.ok.mod.kin hk
    (thn (ha.run pos pins s σ H _ I h) fun us s1 ⟨vs, H1, J, rel, q⟩ => ⟨J.kIn, ?_⟩) he hpl
  have all : Vals (vs ++ dvs) (us ++ ds) := rel.append hd
  have ln : (us ++ ds).length = ps.length := by
    rw [← all.length]
    exact F.len _ _ _ _ q
  refine wpAny_call (codeAny_mono (F.go X.A X.stack s1 H1 ⟨us, []⟩ (us ++ ds) (vs ++ dvs) Q E gd hr J.env0
    (hb s1 us J.kIn ln) all q) fun r s2 z => ?_)
  cases r with
  | error er => exact hx pins σ H1 s1 er s2 J z
  | ok fl =>
    cases fl with
    | ret u => exact J.after z
    | next => exact z.elim
    | brk => exact z.elim
    | cont => exact z.elim
end
/-! ### the law's own call -/
section
variable {P : Program} {w : World} {K : PySem.W.Frag} {mg mb : Str → Option Value} {k : Nat} {fa a : Addr} {fd : FuncData} {x : Str} {sp : Sp} {s : Shared} {us : List Value} {ns : List Int}
/-- what the call of the law is to end in -/
def LawEnd (P : Program) (fa a : Addr) (w : World) (s : Shared) : Prop :=
  codeAny (model P w) callerA (.call (.ref fa) ⟨[.ref a], []⟩)
    (fun r s2 => r = .ok (.ret (.bool true)) ∧ OldK s.heap s2.heap ∧ s2.os = s.os ∧ AllBare s2.gens) s
/-- from a heap that tracks the script alone, locked, or nothing -/
theorem law_from {H : Hp} (inK : K.In s.heap) (gl : s.heap.Ns mainGlobals mg) (bl : s.heap.Ns builtinsNs mb)
    (bb : ∀ x : Str, x ≠ "__name__" → mb x = bootBuiltins x) (room : s.heap.NoLimit) (g0 : s.gens = #[])
    (sc : s.heap.get? a = some { cls := .type "list", data := .seq us.toArray }) (hr : Room k callerA)
    (F : ∀ base : Heap, K.In base → base.Ns mainGlobals mg → FnG P w K mg base CX0 k fa fd [x] sp)
    (bt : ∀ (s : Shared) (u : Value), BindsTo s fd ⟨[u], []⟩ [(x, u)])
    (only : Only H) (at_ : ∀ b, H b ≠ none → b = a) (out : H a ≠ none → K.lookup a = none) (ok : HOk P w H s.heap)
    (hq : sp [.ref a] H (fun v _ => v = .bl true) fun _ _ _ => False) : LawEnd P fa a w s := by
  have low : ∀ {b : Addr} {o : Obj}, s.heap.get? b = some o → H b = none → (hidT s.heap H).get? b = some o :=
    fun h1 h2 => hidT_get h1 h2
  have free : ∀ {b : Addr}, b ≠ a → H b = none := fun {b} hb => by
    cases e : H b with
    | none => rfl
    | some u => exact (hb (at_ b (by rw [e]; exact fun z => nomatch z))).elim
  have dicts : ∀ {b : Addr} {m : Str → Option Value}, s.heap.Ns b m → (hidT s.heap H).Ns b m := by
    rintro b m ⟨o, es, ep, h1, h2, h3⟩
    refine ⟨o, es, ep, low h1 (free fun e => ?_), h2, h3⟩
    rw [e, sc] at h1
    cases h1
    have h4 : Data.seq us.toArray _ = Data.dict es ep := h2
    cases h4
  have inB : K.In (hidT s.heap H) := fun b o e => low (inK b o e) (by
    cases q : H b with
    | none => rfl
    | some u =>
      have ne : H b ≠ none := by
        rw [q]
        exact fun z => nomatch z
      have eb := at_ b ne
      rw [eb] at e ne
      rw [out ne] at e
      cases e)
  obtain ⟨mc, l1, l2⟩ := room
  have md : Mod K mg (hidT s.heap H) := ⟨inB, dicts gl, ⟨mb, dicts bl, bb⟩, mc, dicts l1, l2⟩
  have none_in : ∀ b : Addr, b ∉ ([] : List Addr) := fun b z => nomatch z
  have env : Env0 P w K mg (hidT s.heap H) callerA [] s H :=
    ⟨rfl, md, fun b o e => of_hidT e, Nat.le_of_eq (hidT_size _ _), trivial, fun b z => (none_in b z).elim, ok, .of_eq g0⟩
  refine codeAny_mono ((F _ inB (dicts gl)).go callerA [] s H ⟨[.ref a], []⟩ [.ref a] [.ref a] _ _ rfl hr env
    (bt s (.ref a)) (.cons rfl .nil) hq) fun r s2 z => ?_
  cases r with
  | error e => exact z.elim
  | ok fl =>
    cases fl with
    | next => exact z.elim
    | brk => exact z.elim
    | cont => exact z.elim
    | ret u =>
      obtain ⟨v, H2, h1, h2, un, ok2, rv, ev⟩ := z
      have ev' : v = .bl true := ev
      rw [ev'] at rv
      have ru : u = Value.bool true := rv
      rw [ru]
      refine ⟨rfl, OldK.of_keep fun b o e => ?_, h1, h2⟩
      rcases only b with q | ⟨ob, xs, q⟩
      · exact un.keep b o e q (none_in b) (none_in b)
      · have q1 := (ok b _ q).1
        have q2 := (ok2 b _ (un.frzs b ob _ q)).1
        rw [e] at q1
        cases q1
        exact q2
theorem law_go (inK : K.In s.heap) (gl : s.heap.Ns mainGlobals mg) (bl : s.heap.Ns builtinsNs mb)
    (bb : ∀ x : Str, x ≠ "__name__" → mb x = bootBuiltins x) (room : s.heap.NoLimit) (g0 : s.gens = #[])
    (sc : s.heap.get? a = some { cls := .type "list", data := .seq us.toArray }) (hi : IntsAre us ns) (hl : ns.length ≤ sizeLine) (hr : Room k callerA)
    (F : ∀ base : Heap, K.In base → base.Ns mainGlobals mg → FnG P w K mg base CX0 k fa fd [x] sp)
    (bt : ∀ (s : Shared) (u : Value), BindsTo s fd ⟨[u], []⟩ [(x, u)])
    (hq : ∀ H : Hp, Only H → SqL K H a (ns.map V.int) → sp [.ref a] H (fun v _ => v = .bl true) fun _ _ _ => False) : LawEnd P fa a w s := by
  have rel := vals_ints hi
  have ln := hi.length
  cases lk : K.lookup a with
  | some o =>
    have e := inK a o lk
    rw [sc] at e
    cases e
    refine law_from (H := fun _ => none) inK gl bl bb room g0 sc hr F bt (fun _ => .inl rfl) (fun b z => (z rfl).elim) (fun z => (z rfl).elim)
      (fun b u z => nomatch (show (none : Option HO) = some u from z)) (hq _ (fun _ => .inl rfl) (.inr ?_))
    exact ⟨_, us.toArray, _, lk, rfl, rfl, rfl, by rw [List.size_toArray, ln]; exact hl, by simpa using rel⟩
  | none =>
    let ob : Obj := { cls := .type "list", data := .seq us.toArray }
    have e0 : ∀ {b : Addr}, b ≠ a → upd (fun _ => none) a (.frz ob (.lst (ns.map V.int))) b = none := fun h => upd_ne h
    have only : Only (upd (fun _ => none) a (.frz ob (.lst (ns.map V.int)))) := fun b => by
      by_cases hb : b = a
      · subst hb
        exact .inr ⟨_, _, upd_same⟩
      · exact .inl (e0 hb)
    refine law_from (H := upd (fun _ => none) a (.frz ob (.lst (ns.map V.int)))) inK gl bl bb room g0 sc hr F bt only (fun b z => ?_) (fun _ => lk)
      (fun b u z => ?_) (hq _ only (.inl (.inr ⟨ob, upd_same⟩)))
    · exact Classical.byContradiction fun hb => z (e0 hb)
    · by_cases hb : b = a
      · subst hb
        rw [upd_same] at z
        cases z
        exact ⟨sc, by rw [List.length_map]; exact hl, us, _, rel, sc⟩
      · rw [e0 hb] at z
        cases z
end
/-- the goal that the head leaves -/
theorem walkG {l : PySem.W.OpenLaw} {n k : Nat} {q : Program} {loose : List Str} {XP : (Str → Option Value) → Heap → Prop} {YP : World → Heap → Prop}
    {d : DefRec} {K : Params → PySem.W.Frag} {sp : World → Sp} {x : Str} (hn : l.most = some n) (n2 : n ≤ sizeLine)
    (hdf : d.params.defaults = []) (hr : Room k callerA) (hY : ∀ (w : World) (h : Heap), YP w h → (K w.params).In h)
    (F : ∀ (w : World) (mg : Str → Option Value) (fa : Addr) (h : Heap), (K w.params).In h → h.Ns mainGlobals mg → mg d.name = some (.ref fa) →
      ∃ fd : FuncData, (∀ (s : Shared) (u : Value), BindsTo s fd ⟨[u], []⟩ [(x, u)]) ∧
        ∀ base : Heap, (K w.params).In base → base.Ns mainGlobals mg → FnG l.prog w (K w.params) mg base CX0 k fa fd [x] (sp w))
    (hq : ∀ (w : World) (H : Hp) (a : Addr) (ns : List Int), ns.length ≤ n → SqL (K w.params) H a (ns.map V.int) →
      sp w [.ref a] H (fun v _ => v = .bl true) fun _ _ _ => False) :
    PySem.W.WalkO q loose XP YP l.row.toRowW d [] (fun f vs => PySem.call f vs) := by
  refine Att.attach_call hn hdf
    fun w s₀ s mg mb fa o pm cd doc a us ns gr Y _ _ _ hm sc hi hl g0 => ?_
  have inK := hY w _ Y
  obtain ⟨fd, bt, G⟩ := F w mg fa _ inK gr.T.g hm
  exact law_go inK gr.T.g gr.T.b gr.T.builtins gr.T.nolimit g0 sc hi (Nat.le_trans hl n2) hr G bt
    fun H _ h => hq w H a ns hl h
end G

set_option Elab.async false
set_option maxRecDepth 100000
/-! repr of data. -/
namespace G
open PySem L2 PySem.Spec PyProof.Rows
mutual
/-- data with empty dicts in it, without lists -/
inductive Dd (K : PySem.W.Frag) (H : Hp) : V → PyData → Prop
  | non : Dd K H .non .none
  | bl (b : Bool) : Dd K H (.bl b) (.bool b)
  | int (i : Int) : Dd K H (.int i) (.int i)
  | str (x : Str) : Dd K H (.str x) (.str x)
  | tup {a : Addr} {xs : List V} {ds : List PyData} : SqT K H a xs → DdAll K H xs ds → Dd K H (.ref a) (.tuple ds)
  | dct {a : Addr} : H a = some (.dK []) → Dd K H (.ref a) (.dict [])
inductive DdAll (K : PySem.W.Frag) (H : Hp) : List V → List PyData → Prop
  | nil : DdAll K H [] []
  | cons {v : V} {vs : List V} {d : PyData} {ds : List PyData} : Dd K H v d → DdAll K H vs ds → DdAll K H (v :: vs) (d :: ds)
end
/-- data of either sort -/
def Dq (K : PySem.W.Frag) (H : Hp) (v : V) (d : PyData) : Prop := Dp K H v d ∨ Dd K H v d
section
variable {K : PySem.W.Frag} {H H' : Hp}
theorem sqT_same {a : Addr} {xs : List V} (e : Same H H') (h : SqT K H a xs) : SqT K H' a xs := by
  rcases h with (h | ⟨o, h⟩) | h
  · exact .inl (.inl (e _ _ h))
  · exact .inl (.inr ⟨o, e _ _ h⟩)
  · exact .inr h
mutual
theorem Dp.same (e : Same H H') : ∀ {d : PyData} {v : V}, Dp K H v d → Dp K H' v d
  | .none, _, h => by cases h; exact .non
  | .bool _, _, h => by cases h; exact .bl _
  | .int _, _, h => by cases h; exact .int _
  | .str _, _, h => by cases h; exact .str _
  | .list ds, _, h => by
    cases h with
    | lst h1 h2 => exact .lst (e.seq h1) (DpAll.same e h2)
  | .tuple ds, _, h => by
    cases h with
    | tup h1 h2 => exact .tup (sqT_same e h1) (DpAll.same e h2)
  | .dict _, _, h => by cases h
theorem DpAll.same (e : Same H H') : ∀ {ds : List PyData} {vs : List V}, DpAll K H vs ds → DpAll K H' vs ds
  | [], _, h => by cases h; exact .nil
  | d :: ds, _, h => by
    cases h with
    | cons h1 h2 => exact .cons (Dp.same e h1) (DpAll.same e h2)
end
mutual
theorem Dd.same (e : Same H H') : ∀ {d : PyData} {v : V}, Dd K H v d → Dd K H' v d
  | .none, _, h => by cases h; exact .non
  | .bool _, _, h => by cases h; exact .bl _
  | .int _, _, h => by cases h; exact .int _
  | .str _, _, h => by cases h; exact .str _
  | .list ds, _, h => by cases h
  | .tuple ds, _, h => by
    cases h with
    | tup h1 h2 => exact .tup (sqT_same e h1) (DdAll.same e h2)
  | .dict _, _, h => by
    cases h with
    | dct h => exact .dct (e _ _ h)
theorem DdAll.same (e : Same H H') : ∀ {ds : List PyData} {vs : List V}, DdAll K H vs ds → DdAll K H' vs ds
  | [], _, h => by cases h; exact .nil
  | d :: ds, _, h => by
    cases h with
    | cons h1 h2 => exact .cons (Dd.same e h1) (DdAll.same e h2)
end
theorem Dq.same {d : PyData} {v : V} (h : Dq K H v d) (e : Same H H') : Dq K H' v d := h.imp (Dp.same e) (Dd.same e)
mutual
theorem Dp.noDict : ∀ {d : PyData} {v : V}, Dp K H v d → d.hasDict = false
  | .none, _, _ => by simp only [PyData.hasDict]
  | .bool _, _, _ => by simp only [PyData.hasDict]
  | .int _, _, _ => by simp only [PyData.hasDict]
  | .str _, _, _ => by simp only [PyData.hasDict]
  | .list ds, _, h => by
    cases h with
    | lst _ h2 =>
      simp only [PyData.hasDict]
      exact DpAll.noDict h2
  | .tuple ds, _, h => by
    cases h with
    | tup _ h2 =>
      simp only [PyData.hasDict]
      exact DpAll.noDict h2
  | .dict _, _, h => by cases h
theorem DpAll.noDict : ∀ {ds : List PyData} {vs : List V}, DpAll K H vs ds → PyData.hasDictAll ds = false
  | [], _, _ => by simp only [PyData.hasDictAll]
  | d :: ds, _, h => by
    cases h with
    | cons h1 h2 => simp only [PyData.hasDictAll, Dp.noDict h1, DpAll.noDict h2, Bool.or_self]
end
end
section
variable {X : Cx} {pins : List (Addr × Obj)} {σ : L2.St} {H : Hp} {s : Shared}
mutual
theorem Dd.reads (I : Inv X pins σ H s) : ∀ {d : PyData} {v : V} {u : Value}, Dd X.K H v d → RelV v u → ∃ as, Reads s.heap u d as ∧ sysModules ∉ as
  | .none, _, _, h, r => by
    cases h
    cases r
    exact ⟨_, .none, fun z => nomatch z⟩
  | .bool b, _, _, h, r => by
    cases h
    cases r
    exact ⟨_, .bool b, fun z => nomatch z⟩
  | .int i, _, _, h, r => by
    cases h
    obtain ⟨t, rfl⟩ := r
    exact ⟨_, .int i t, fun z => nomatch z⟩
  | .str x, _, _, h, r => by
    cases h
    obtain ⟨t, rfl⟩ := r
    exact ⟨_, .str x t, fun z => nomatch z⟩
  | .list _, _, _, h, _ => by cases h
  | .tuple ds, _, _, h, r => by
    cases h with
    | tup h1 h2 =>
      cases r
      obtain ⟨its, rv, ⟨o, e1, e2, n, e3⟩, _⟩ := I.tuple h1
      obtain ⟨as, q1, q2⟩ := DdAll.reads I h2 rv
      exact ⟨_, .tuple e1 e2 e3 q1, q2⟩
  | .dict _, _, _, h, r => by
    cases h with
    | @dct a h1 =>
      cases r
      obtain ⟨_, ns, vs, kv, o, es, ep, e1, e2, e3, _, e5, _⟩ := (show ObjOk X.prog X.w H s.heap a (.dK []) from I.hok a _ h1)
      cases kv
      have e6 : es.toList = [] := by
        cases q : es.toList with
        | nil => rfl
        | cons x l =>
          rw [q] at e5
          cases e5
      refine ⟨_, .dict (as := []) (bs := []) e1 e2.1 e3 (by rw [e6]; exact .nil) (by rw [e6]; exact .nil), fun z => ?_⟩
      have z' : sysModules = a := by simpa using z
      rw [z'] at ns
      simp at ns
theorem DdAll.reads (I : Inv X pins σ H s) : ∀ {ds : List PyData} {vs : List V} {us : List Value}, DdAll X.K H vs ds → Vals vs us → ∃ as, ReadsAll s.heap us ds as ∧ sysModules ∉ as
  | [], _, _, h, r => by
    cases h
    cases r
    exact ⟨_, .nil, fun z => nomatch z⟩
  | d :: ds, _, _, h, r => by
    cases h with
    | cons h1 h2 =>
      cases r with
      | cons r1 r2 =>
        obtain ⟨as, q1, n1⟩ := Dd.reads I h1 r1
        obtain ⟨bs, q2, n2⟩ := DdAll.reads I h2 r2
        exact ⟨_, .cons q1 q2, fun z => (List.mem_append.mp z).elim n1 n2⟩
end
theorem Dq.reads (I : Inv X pins σ H s) {d : PyData} {v : V} {u : Value} (h : Dq X.K H v d) (r : RelV v u) : ∃ as, Reads s.heap u d as ∧ (d.hasDict = true → sysModules ∉ as) := by
  rcases h with h | h
  · obtain ⟨as, q⟩ := Dp.reads I d v u h r
    exact ⟨as, q, fun e => by rw [Dp.noDict h] at e; cases e⟩
  · obtain ⟨as, q, n⟩ := Dd.reads I h r
    exact ⟨as, q, fun _ => n⟩
end
/-- repr(x) -/
def rRepr (K : PySem.W.Frag) : List V → Hp → VK → Prop := fun xs H Q => ∃ (v : V) (d : PyData), xs = [v] ∧ Dq K H v d ∧ d.showable = true ∧ d.shown.length ≤ sizeLine ∧ d.depth ≤ 60 ∧ Q (.str d.shown) H
section
variable {X : Cx}
theorem call_repr (gd : X.A.guards = some []) (hu : X.A.units + 64 < cLine) : CallR X (.builtin "repr") (rRepr X.K) := by
  intro pins s σ H xs us Q I r h
  obtain ⟨v, d, rfl, hd, hs, hz, hp, q⟩ := h
  obtain ⟨u, rfl, r1⟩ := vals1 r
  obtain ⟨as, rd, no⟩ := hd.reads I r1
  have big : ∀ a : Addr, u = .ref a → wpAny (model X.prog X.w) X.A (call (.builtin "repr") [u]) (EP X pins σ Q) X.xe s := fun a e => by
    subst e
    exact repr_of_reads' rd hs no gd (by omega) (fun _ _ e => e) (fun h' t tk k => ⟨.str d.shown, H, I.kept k, ⟨_, rfl⟩, q⟩) hz
  cases id rd with
  | none => exact PySem.P.repr_of_none ⟨.str _, H, I.tok _, ⟨_, rfl⟩, by simpa [PyData.shown] using q⟩
  | bool b => exact PySem.P.repr_of_bool ⟨.str _, H, I.tok _, ⟨_, rfl⟩, by simpa [PyData.shown] using q⟩
  | int i t => exact PySem.P.repr_of_int (by simpa [PyData.showable] using hs) ⟨.str _, H, I.tok _, ⟨_, rfl⟩, by simpa [PyData.shown] using q⟩
  | str x t => exact PySem.P.repr_of_str ⟨.str _, H, I.tok _, ⟨_, rfl⟩, by simpa [PyData.shown] using q⟩ (by simpa [PyData.shown] using hz)
  | list _ _ _ _ => exact big _ rfl
  | tuple _ _ _ _ => exact big _ rfl
  | dict _ _ _ _ _ => exact big _ rfl
end
end G

set_option Elab.async false
set_option maxRecDepth 100000
/-! An own exception class with an __init__ of its own, called for a value: by position and by the field's name. -/
namespace G
open PySem PySem.HandSPX
section
open PySem.W PySem.Calls PyProof.Rows Builtin Builtin.ObjectAttr
variable {prog : Program} {w : World} {M : Model} {A : Around} {E : Value → Shared → Prop} {R : Result → Shared → Prop} {h : Heap} {g : Array GenState} {d : Drawn} {t : Nat} {os : OsState}
variable {nm q : Str} {C N : Addr} {bs bm bmB : List Value} {hd : Bool} {sn : List Str} {sub : List Value} {ab : Bool} {col : Option Bool} {dd : Option Addr} {k0 k1 k2 k3 k5 : Option Value}
variable {B newId initId : String} {rest : List Value} {kw : List (Str × Value)}
/-- C's class object stands at C -/
abbrev Cl (h : Heap) (nm q : Str) (C N : Addr) (bs bm : List Value) (hd : Bool) (sn : List Str) (sub : List Value) (ab : Bool) (col : Option Bool) (dd : Option Addr) (k0 k1 k2 k3 k5 : Option Value) (newId : String) : Prop :=
  h.get? C = some (excClassObj nm q C N bs bm hd sn sub ab col dd k0 k1 k2 k3 k5 newId)
theorem new_check (F : ExcBaseFacts B newId initId bmB) (same : ∀ Y : String, bm.contains (.type Y) = bmB.contains (.type Y)) {Q : Unit → Shared → Prop}
    (hC : Cl h nm q C N bs bm hd sn sub ab col dd k0 k1 k2 k3 k5 newId) (hq : Q () ⟨h, g, d, t, os⟩) :
    wpAny M A (checkBuiltinCall newId ⟨.ref C :: rest, kw⟩) Q E ⟨h, g, d, t, os⟩ := by
  have isB : (Value.ref C :: bm).contains (.type B) = true := by
    rw [List.contains_cons, same, F.hasB, Bool.or_true]
  have star := F.noStar
  simp only [checkBuiltinCall, F.newKind, F.newSplit, F.newRow]
  repeat (first
    | refine wpAny_loadPart_at hC ?_
    | (refine wpAny_isSubtype_exc hC ?_; rw [isB])
    | refine wpAny_staticBase_exc hC ?_
    | refine wpAny_madeBy_exc hC ?_
    | simp only [bne_self_eq_false, Bool.false_eq_true, if_false]
    | wp_step)
  exact hq
theorem new_run (F : ExcBaseFacts B newId initId bmB) (same : ∀ Y : String, bm.contains (.type Y) = bmB.contains (.type Y))
    (hC : Cl h nm q C N bs bm hd sn sub ab col dd k0 k1 k2 k3 k5 newId)
    (hq : R (.ok (.ret (.ref (h.objs.size + 1)))) ⟨(h.push (kdv_tup rest)).push (excO C h.objs.size), g, d, t, os⟩) (hr : rest.length ≤ sizeLine) :
    codeAny (model prog w) A (.builtin newId ⟨.ref C :: rest, kw⟩) R ⟨h, g, d, t, os⟩ := by
  have ends := F.ends
  have isB : (Value.ref C :: bm).contains (.type B) = true := by
    rw [List.contains_cons, same, F.hasB, Bool.or_true]
  have isA : (Value.ref C :: bm).contains (.type "AttributeError") = false := by
    rw [List.contains_cons, same, F.noAttr]
    rfl
  have isN : (Value.ref C :: bm).contains (.type "NameError") = false := by
    rw [List.contains_cons, same, F.noName]
    rfl
  refine codeAny_builtinAt F.entry ?_
  unfold Builtin.«BaseException.__new__»
  refine PySem.wpAt_bind ?_
  show PySem.wpAt _ _ _ (stack >>= _) _ _ _
  refine PySem.wpAt_bind (PySem.wpAt_stack fun p b => PySem.wpAt_of_wpAny ?_)
  wp_walk
  refine PySem.wpAt_of_wpAny ?_
  rw [F.owner]
  repeat (first
    | with_reducible refine wpAny_madeHere_exc F.canon hC ?_
    | with_reducible refine wpAny_loadPart_at hC ?_
    | (with_reducible refine wpAny_isSubtype_exc hC ?_; first | rw [isB] | rw [isA] | rw [isN])
    | wp_step)
  show R _ _
  rw [Heap.size_push]
  exact hq
theorem type_run {fI : Addr} {Q : Fin → Shared → Prop} (F : ExcBaseFacts B newId initId bmB) (same : ∀ Y : String, bm.contains (.type Y) = bmB.contains (.type Y))
    (hC : Cl h nm q C N bs bm hd sn sub ab col dd k0 k1 k2 k3 k5 newId)
    (hi : Looks (model prog w) h (typeLookup (.ref C) "__init__") (some (.ref fI)))
    (hb : ∀ self, Looks (model prog w) h (bindSpecial (.ref fI) self) (.ref fI, [self])) (hr : rest.length ≤ sizeLine)
    (hq : codeAny (model prog w) A (.call (.ref fI) ⟨.ref (h.objs.size + 1) :: rest, kw⟩)
      (fun r s' => match r with | .ok (.ret v) => v = .none ∧ Q (.done (.ret (.ref (h.objs.size + 1)))) s' | .ok _ => False | .error e => E e s')
      ⟨(h.push (kdv_tup rest)).push (excO C h.objs.size), g, d, t, os⟩) :
    wpAny (model prog w) A (Builtin.«type.__call__» ⟨.ref C :: rest, kw⟩) Q E ⟨h, g, d, t, os⟩ := by
  repeat (first
    | with_reducible refine wpAny_loadPart_at hC ?_
    | with_reducible refine wpAny_madeBy_exc hC ?_
    | wp_step)
  refine codeAny_call_builtin_code (Code.quiet_builtin _ F.quiet) (new_check F same hC ?_)
  refine new_run F same hC ?_ hr
  show wpAny _ _ _ _ _ _
  have keep : ∀ b o, h.get? b = some o → ((h.push (kdv_tup rest)).push (excO C h.objs.size)).get? b = some o :=
    fun b o e => Heap.get?_push_of_some _ (Heap.get?_push_of_some _ e)
  have hC2 := keep _ _ hC
  have mine : ((h.push (kdv_tup rest)).push (excO C h.objs.size)).get? (h.objs.size + 1) = some (excO C h.objs.size) := by
    heap_get
  have isC : (Value.ref C :: bm).contains (.ref C) = true := by simp
  have i2 := hi.keeps keep
  have b2 := (hb (.ref (h.objs.size + 1))).keeps keep
  unfold isInstance
  repeat (first
    | with_reducible refine wpAny_loadPart_at mine ?_
    | (with_reducible refine wpAny_isSubtype_exc hC2 ?_; rw [isC])
    | wp_step)
  show wpAny _ _ (typeLookup (.ref C) _) _ _ _
  refine i2.at ?_
  refine wpAny_holding (wpAny_bind (b2.at ?_))
  refine wpAny_bind (wpAny_call (codeAny_mono hq fun r s' z => ?_))
  rcases r with e | (v | _ | _ | _) <;> first
    | exact z
    | exact z.elim
    | skip
  obtain ⟨rfl, z⟩ := z
  first
    | exact wpAny_pure (wpAny_pure z)
    | (wp_walk; exact z)
theorem check_call {Q : Unit → Shared → Prop} (hC : Cl h nm q C N bs bm hd sn sub ab col dd k0 k1 k2 k3 k5 newId)
    (hq : Q () ⟨h, g, d, t, os⟩) : wpAny M A (checkBuiltinCall "type.__call__" ⟨.ref C :: rest, kw⟩) Q E ⟨h, g, d, t, os⟩ := by
  have f := tc_sub
  have ty : (⟨h, g, d, t, os⟩ : Shared).TypeIs (.ref C) "type" := ⟨_, hC, rfl⟩
  simp only [checkBuiltinCall, tc_kind, tc_split]
  repeat (any_goals (first
    | assumption
    | with_reducible refine wpAny_loadPart_at hC ?_
    | with_reducible refine wpAny_onRaise ?_
    | with_reducible refine wpAny_map ?_
    | wp_step))
theorem call_run {fI : Addr} (F : ExcBaseFacts B newId initId bmB) (same : ∀ Y : String, bm.contains (.type Y) = bmB.contains (.type Y))
    (hC : Cl h nm q C N bs bm hd sn sub ab col dd k0 k1 k2 k3 k5 newId)
    (hi : Looks (model prog w) h (typeLookup (.ref C) "__init__") (some (.ref fI)))
    (hb : ∀ self, Looks (model prog w) h (bindSpecial (.ref fI) self) (.ref fI, [self])) (hr : rest.length ≤ sizeLine)
    (hq : codeAny (model prog w) (A.under (.builtin "type.__call__" ⟨.ref C :: rest, kw⟩)) (.call (.ref fI) ⟨.ref (h.objs.size + 1) :: rest, kw⟩) (InitBack (h.objs.size + 1) R)
      ⟨(h.push (kdv_tup rest)).push (excO C h.objs.size), g, d, t, os⟩) :
    codeAny (model prog w) A (.call (.ref C) ⟨rest, kw⟩) R ⟨h, g, d, t, os⟩ := by
  have f1 := tc_lookup
  have f2 := tc_bind (.ref C)
  have ty : (⟨h, g, d, t, os⟩ : Shared).TypeIs (.ref C) "type" := ⟨_, hC, rfl⟩
  refine codeAny_of_tree ?_
  show wpAny _ _ (callAny (.ref C) _) _ _ _
  repeat (any_goals (first
    | assumption
    | with_reducible refine wpAny_loadPart_at hC ?_
    | wp_step))
  refine ⟨rfl, ?_⟩
  refine codeAny_call_builtin_at (Code.quiet_builtin _ (by decide +kernel)) entry_typeCall (check_call hC (type_run F same hC hi hb hr ?_))
  refine codeAny_mono hq fun r s' z => ?_
  rcases r with e | (v | _ | _ | _) <;> exact z
/-- self.name = v, the first field -/
theorem osa_new {K : W.Frag} {name : Str} {tk : Tok} {v : Value} {x : Addr} {fv : Array Value} {cd : ClassData}
    (X : K.In h) (hx : h.get? x = some { cls := .ref C, data := .fields fv }) (hc : W.clsIn K C = some cd)
    (pass : refuseLoop (.ref x) "__setattr__" cd.mro = pure ()) (full : cd.mro.isEmpty = false) (ob : cd.mro.contains (.type "object") = true)
    (hh : cd.hasDict = true) (ha : W.findIn K (.ref C) name = some none)
    (hq : ∀ h' tk' dx, (∀ b o, b ≠ x → h.get? b = some o → h'.get? b = some o) → h.objs.size ≤ dx → dx ≠ x →
      h'.get? x = some { cls := .ref C, dict := some dx, data := .fields fv } →
      h'.Ns1 dx (fun y => if y = name then some v else none) → R (.ok (.ret .none)) ⟨h', g, d, tk', os⟩) :
    codeAny (model prog w) A (.call (.builtin "object.__setattr__") ⟨[.ref x, .str name tk, v], []⟩) R ⟨h, g, d, t, os⟩ := by
  have J : W.InstAt h x { cls := .ref C, data := .fields fv } C none := ⟨hx, rfl, rfl, trivial⟩
  have S := F.store_object
  have far : x ≠ h.objs.size := Nat.ne_of_lt (Heap.lt_size hx)
  have isO : Looks (model prog w) h (isInstance (.ref x) (.type "object")) true :=
    J.type.andThen (W.looks_mroIn X (by unfold W.mroIn; rw [hc, Option.bind_some, if_neg (by rw [full]; decide), ob]))
  refine codeAny_call_builtin S.slot.plain S.entry
    (@W.check_slot (model prog w) _ _ ⟨h, g, d, t, os⟩ "object.__setattr__" "object" "__setattr__" (.ref x) [.str name tk, v] [] _ S.kind S.split isO (S.args (.ref x) (.str name tk) v) ?_)
  have mro : Looks (model prog w) h (mroOf (.ref C)) cd.mro := (W.looks_clsIn X hc).andThen .now
  have taker : Looks (model prog w) h (storeTaker? none) none := .now
  have cls : Looks (model prog w) h (classData C) cd := W.looks_clsIn X hc
  rw [W.osa_eq, refuse_eq]
  refine wpAny_bind (wpAny_bind (J.type.at (wpAny_bind (mro.at ?_))))
  rw [pass]
  refine wpAny_pure (wpAny_bind (J.type.at (wpAny_bind ((W.looks_findIn X ha).at (wpAny_bind (taker.at ?_))))))
  show wpAny _ _ (storeInOwnDict (.ref x) (.ref C) (.str name tk) name v false) _ _ _
  obtain ⟨a1, a2, a3, a4, a5, a6, a7, a8, a9, aa, ac⟩ := cd
  dsimp only at hh
  subst hh
  unfold storeInOwnDict ownDictForStores
  repeat (first
    | with_reducible refine store_in_new ?_ ?_
    | with_reducible refine wpAny_loadPart_at hx ?_
    | with_reducible refine cls.at ?_
    | wp_step)
  · exact ⟨_, #[], _, (Heap.get?_update_ne _ _ _ _ far.symm).trans (Heap.get?_push_at rfl rfl), rfl, fun e he => absurd he (by simp), fun _ => rfl⟩
  · intro h' tk' hn hs
    refine hq h' tk' h.objs.size (fun b o hb ho => ?_) (Nat.le_refl _) far.symm ?_ hn
    · have b1 := hs.2 b (Nat.ne_of_lt (Heap.lt_size ho))
      exact b1.trans ((Heap.get?_update_ne _ _ _ _ hb).trans (Heap.get?_push_of_some _ ho))
    · exact (hs.2 x far).trans (Heap.get?_update_self _ (Heap.get?_push_of_some _ hx) rfl)
end
end G

set_option Elab.async false
set_option maxRecDepth 100000
/-! Own exceptions as values: made, read, asked for their class. -/
namespace G
open PySem PySem.HandSPX L2 PySem.Spec PyProof.Rows
/-- what the written part says of an own exception class at C, over the built-in class B -/
structure OexG (K : PySem.W.Frag) (C : Addr) (B newId initId : String) (bmB : List Value) : Prop where
  cls : ∃ nm q N bs bm sn sub ab col dd k0 k1 k2 k3 k5,
    K.lookup C = some (excClassObj nm q C N bs bm true sn sub ab col dd k0 k1 k2 k3 k5 newId) ∧
    (∀ Y : String, bm.contains (.type Y) = bmB.contains (.type Y)) ∧
    ∀ self, refuseLoop self "__setattr__" (.ref C :: bm) = pure ()
  fb : ExcBaseFacts B newId initId bmB
  ob : bmB.contains (.type "object") = true
  sa : PySem.W.findIn K (.ref C) "__setattr__" = some (some (.builtin "object.__setattr__"))
  ga : PySem.W.findIn K (.ref C) "__getattribute__" = some (some (.builtin "BaseException.__getattribute__"))
  gg : PySem.W.findIn K (.ref C) "__getattr__" = some none
  ex : PySem.W.subIn K (.ref C) (.type "BaseException") = some true
  kp : PySem.W.keepIn K (.ref C) = true
  hd : PySem.W.hasDictIn K C = true
  cc : PySem.W.findIn K (.ref C) "__class__" = some (some (.builtin "object.__class__"))
  cg : PySem.W.specialIn K (.builtin "object.__class__") "__get__" = some (some (.builtin "getset_descriptor.__get__"))
  ct : PySem.W.takesIn K (.builtin "object.__class__") = some true
  cm : PySem.W.mroIn K C (.type "object") = some true
theorem cls_of {K : PySem.W.Frag} {nm q : Str} {C N : Addr} {bs bm : List Value} {sn : List Str} {sub : List Value} {ab : Bool} {col : Option Bool} {dd : Option Addr} {k0 k1 k2 k3 k5 : Option Value} {newId : String}
    (h : K.lookup C = some (excClassObj nm q C N bs bm true sn sub ab col dd k0 k1 k2 k3 k5 newId)) :
    PySem.W.clsIn K C = some { name := nm, bases := bs, mro := .ref C :: bm, ns := N, qualname := q, hasDict := true, slotNames := sn, subclasses := sub, abstract := ab, collection := col, hasDel := false } := by
  unfold PySem.W.clsIn
  rw [h] <;> rfl
section
variable {X : Cx} {pins : List (Addr × Obj)} {σ : L2.St} {H : Hp} {s : Shared} {a C : Addr} {f : Str} {y : V} {u : Value} {B newId initId : String} {bmB : List Value}
/-- self.f = y -/
theorem st_new {Q : Unit → Shared → Prop} {E : Value → Shared → Prop} {A : Around} (T : OexG X.K C B newId initId bmB) (I : Inv X pins σ H s) (e : H a = some (exo a C none))
    (no : PySem.W.findIn X.K (.ref C) f = some none) (ry : RelV y u)
    (h : ∀ dx s', H dx = none → dx ≠ a → Inv X pins σ (upd (upd H dx (exd dx [(f, y)])) a (exo a C (some dx))) s' → Q () s') :
    wpAny (model X.prog X.w) A (setAttr (.ref a) f u) Q E s := by
  obtain ⟨nm, q, N, bs, bm, sn, sub, ab, col, dd, k0, k1, k2, k3, k5, hC, same, pass⟩ := T.cls
  have hcl := cls_of hC
  obtain ⟨t1, ho⟩ := exo_at I.hok e
  obtain ⟨hp, g, d, t, os⟩ := s
  have isO : (Value.ref C :: bm).contains (.type "object") = true := by
    rw [List.contains_cons, same, T.ob, Bool.or_true]
  refine PySem.W.set_plain I.kIn (od := none) ⟨ho, rfl, rfl, trivial⟩ T.sa ?_
  refine osa_new I.kIn ho hcl (pass _) rfl isO rfl no fun h' tk dx keep big ne hx hn => ?_
  have fresh : H dx = none := I.hok.fresh big
  have old : ∀ {b : Addr} {o : Obj}, hp.get? b = some o → b ≠ dx := fun {b o} z =>
    Nat.ne_of_lt (Nat.lt_of_lt_of_le (Heap.lt_size z) big)
  have free : ∀ {b : Addr}, H b = none → b ≠ a := fun {b} n z => by
    rw [z, e] at n
    cases n
  have tell : ∀ {b : Addr} {o : HO}, H b = some o → o ≠ exo a C none → upd (upd H dx (exd dx [(f, y)])) a (exo a C (some dx)) b = some o := fun {b o} z no => by
    rw [upd_ne (at_ne e z no.symm), upd_ne (ne_of_none z fresh)]
    exact z
  have U : Un X.fs [] H (upd (upd H dx (exd dx [(f, y)])) a (exo a C (some dx))) hp h' := {
    keep := fun b o z n _ _ => keep b o (free n) z
    slot := fun b o z n _ _ => ⟨o.slots, keep b o (free n) z⟩
    free := fun b o z n _ => by
      rw [upd_ne (free n), upd_ne (old z)]
      exact n
    there := fun b o z _ => by
      by_cases hb : b = a
      · subst hb
        exact ⟨_, hx⟩
      · exact ⟨o, keep b o hb z⟩
    tups := fun b xs z => tell z fun q => exo_tup q.symm
    frzs := fun b o v z => tell z fun q => exo_frz q.symm
    tbls := fun b ps z => ⟨#[], by rw [tell z fun q => exo_tbl q.symm]; simp⟩ }
  refine h dx _ fresh ne (I.un (t' := tk) U fun b o z => ?_)
  by_cases hb : b = a
  · subst hb
    rw [upd_same] at z
    cases z
    exact exo_ok hx
  · rw [upd_ne hb] at z
    by_cases hd : b = dx
    · subst hd
      rw [upd_same] at z
      cases z
      exact exd_ok hn (relO_put (fs := []) ry fun g => True.intro)
    · rw [upd_ne hd] at z
      refine (I.hok b o z).stay (fun c v hc w => keep c v ?_ w) (fun c w => tell w fun q => exo_own q.symm) fun c xs w => tell w fun q => exo_tup q.symm
      rcases hc with hc | hc
      · rw [hc]
        exact hb
      · exact at_ne e hc exo_own
/-- the statement -/
def tFst (C : Addr) (f : Str) (to te : TE) : TS := fun D σ H => te σ H fun y H1 => to σ H1 fun x H2 => ∃ a : Addr, x = .ref a ∧ H2 a = some (exo a C none) ∧
  ∀ dx, H2 dx = none → dx ≠ a → D.nx σ (upd (upd H2 dx (exd dx [(f, y)])) a (exo a C (some dx)))
theorem ps_fst {o e : Expr} {to te : TE} {p p' : Pos} (T : OexG X.K C B newId initId bmB) (no : PySem.W.findIn X.K (.ref C) f = some none) (ho : PE X o to) (he : PE X e te)
    (hs : swapsWith e (some (.Attribute o f p')) p.line X.env = pure false := by rfl) : PS X (.Assign [.Attribute o f p'] e p) (tFst C f to te) := by
  refine ⟨fun pins s σ H D I h => ?_⟩
  refine plainObj_wpAny_Assign_Attribute (thn (he.run pins s σ H _ I h) fun v s1 ⟨y, H1, I1, r1, q1⟩ =>
    thn (ho.run pins s1 σ H1 _ I1 q1) fun u s2 ⟨x, H2, I2, r2, a, ex, ea, q⟩ => ?_) hs
  subst ex
  have eu : u = Value.ref a := r2
  subst eu
  exact st_new T I2 ea no r1 fun dx s' n ne J => ⟨σ, _, J, q dx n ne⟩
/-- C(..) for a value: __init__ keeps sp -/
def tExV (C : Addr) (sp : Sp) (ta : TA) : TE := fun σ H Q => ta σ H fun vs H1 => vs.length ≤ 1000 ∧ ∀ a, H1 a = none →
  sp (.ref a :: vs) (upd H1 a (exo a C none)) (fun v H2 => v = .non ∧ Q (.ref a) H2) fun _ _ _ => False
theorem exc_make {fI : Addr} {k : Nat} {fd : FuncData} {ps : List Str} {sp : Sp} {Q : VK} {us : List Value} {vs : List V} {kw : List (Str × Value)} {ws : List Value}
    (T : OexG X.K C B newId initId bmB) (iC : PySem.W.findIn X.K (.ref C) "__init__" = some (some (.ref fI))) (tI : PySem.W.typeIn X.K (.ref fI) = some (.type "function"))
    (F : FnOk X.prog X.w X.K X.mg X.base CX0 k fI fd ps sp) (hr : Room (k + 1) X.A)
    (hb : ∀ (s : Shared) (x : Value), BindsTo s fd ⟨x :: us, kw⟩ (ps.zip (x :: ws))) (I : Inv X pins σ H s) (rel : Vals vs ws) (hu : us.length ≤ sizeLine)
    (q : ∀ a, H a = none → sp (.ref a :: vs) (upd H a (exo a C none)) (fun v H2 => v = .non ∧ Q (.ref a) H2) fun _ _ _ => False) :
    wpAny (model X.prog X.w) X.A (call (.ref C) us kw) (EP X pins σ Q) X.xe s := by
  obtain ⟨nm, qn, N, bs, bm, sn, sub, ab, col, dd, k0, k1, k2, k3, k5, hC, same, pass⟩ := T.cls
  obtain ⟨hp, g, d, t, os⟩ := s
  have big : hp.objs.size ≤ hp.objs.size + 1 := Nat.le_succ _
  have nw : H (hp.objs.size + 1) = none := I.hok.fresh big
  have keep : ∀ b o, hp.get? b = some o → ((hp.push (PySem.W.kdv_tup us)).push (excO C hp.objs.size)).get? b = some o :=
    fun b o e => Heap.get?_push_of_some _ (Heap.get?_push_of_some _ e)
  have mine : ((hp.push (PySem.W.kdv_tup us)).push (excO C hp.objs.size)).get? (hp.objs.size + 1) = some (excO C hp.objs.size) := by
    heap_get
  have J : Inv X pins σ (upd H (hp.objs.size + 1) (exo (hp.objs.size + 1) C none)) ⟨(hp.push (PySem.W.kdv_tup us)).push (excO C hp.objs.size), g, d, t, os⟩ :=
    I.laid (t' := t) (h' := (hp.push (PySem.W.kdv_tup us)).push (excO C hp.objs.size)) keep big (exo_ok mine)
  have all : Vals (V.ref (hp.objs.size + 1) :: vs) (Value.ref (hp.objs.size + 1) :: ws) := .cons rfl rel
  refine wpAny_call (call_run T.fb same (I.kIn _ _ hC) (PySem.W.looks_findIn I.kIn iC) (fun self => PySem.W.bind_fn I.kIn self tI) hu
    (codeAny_mono (F.run _ X.stack _ _ ⟨Value.ref (hp.objs.size + 1) :: us, kw⟩ (Value.ref (hp.objs.size + 1) :: ws) _ _ (fun _ _ _ => False)
      (hr.make C us kw) (J.env0.make C us kw) (hb _ _) all (q _ nw)) fun r s2 z => ?_))
  cases r with
  | error er => exact z.elim
  | ok fl =>
    cases fl with
    | ret v =>
      obtain ⟨w1, H2, I2, rv, e1, q2⟩ := J.after z
      subst e1
      exact ⟨rv, V.ref (hp.objs.size + 1), H2, I2, rfl, q2⟩
    | next => exact z.elim
    | brk => exact z.elim
    | cont => exact z.elim
theorem pe_excV {fI : Addr} {k : Nat} {fd : FuncData} {ps : List Str} {sp : Sp} {x : Str} {e : Expr} {es : List Expr} {p pos : Pos} {ta : TA}
    (T : OexG X.K C B newId initId bmB) (iC : PySem.W.findIn X.K (.ref C) "__init__" = some (some (.ref fI))) (tI : PySem.W.typeIn X.K (.ref fI) = some (.type "function"))
    (F : FnOk X.prog X.w X.K X.mg X.base CX0 k fI fd ps sp) (hr : Room (k + 1) X.A) (hg : Gl X x) (hm : X.mg x = some (.ref C)) (ha : PA X (e :: es) ta)
    (hall : ∀ (s : Shared) (us : List Value), us.length = ps.length → BindsTo s fd ⟨us, []⟩ (ps.zip us))
    (hdb : (x == ("__debug__" : Str)) = false := by decide) (he : starEach (e :: es) X.env = (false, eval e X.env) :: starEach es X.env := by rfl)
    (hpl : (backTo pos (starEach es X.env)).any (·.1) = false := by rfl) : PE X (.Call (.Name x p) (e :: es) [] pos) (tExV C sp ta) := by
  refine ⟨fun pins s σ H Q I h => ?_⟩
  refine wpAny_Call_Name_kw (ld_glob I hg hm ?_ hdb)
  refine PySem.W.callWith_K (h₀ := X.base) I.ok.mod.kin T.kp
    (thn (ha.run pos pins s σ H _ I h) fun us s1 ⟨vs, H1, I1, rel, hz, q⟩ => ⟨I1.kIn, ?_⟩) he hpl
  have ln : us.length = vs.length := rel.length.symm
  show wpAny _ _ (call (.ref C) us) _ _ _
  refine exc_make (ws := us) T iC tI F hr (fun s y => ?_) I1 rel (by rw [ln, sizeLine_eq]; omega) q
  have q0 := F.len _ _ _ _ (q (s1.heap.objs.size) (I1.hok.fresh (Nat.le_refl _)))
  exact hall s (y :: us) (by rw [List.length_cons, ln]; exact q0)
/-- C(f = e) for a value -/
theorem pe_excK {fI : Addr} {k : Nat} {fd : FuncData} {ps : List Str} {sp : Sp} {x n : Str} {e : Expr} {p pos kp : Pos} {te : TE}
    (T : OexG X.K C B newId initId bmB) (iC : PySem.W.findIn X.K (.ref C) "__init__" = some (some (.ref fI))) (tI : PySem.W.typeIn X.K (.ref fI) = some (.type "function"))
    (F : FnOk X.prog X.w X.K X.mg X.base CX0 k fI fd ps sp) (hr : Room (k + 1) X.A) (hg : Gl X x) (hm : X.mg x = some (.ref C)) (ha : PE X e te)
    (two : ps.length = 2) (hall : ∀ (s : Shared) (u v : Value), BindsTo s fd ⟨[u], [(n, v)]⟩ (ps.zip [u, v]))
    (hdb : (x == ("__debug__" : Str)) = false := by decide) : PE X (.Call (.Name x p) [] [⟨some n, e, kp⟩] pos) (tExV C sp (tCons te tNil)) := by
  refine ⟨fun pins s σ H Q I h => ?_⟩
  refine wpAny_Call_Name_kw (ld_glob I hg hm ?_ hdb)
  refine PySem.W.callWith_KW0 (h₀ := X.base) I.ok.mod.kin T.kp rfl
    (thn ((pk_cons (nm := some n) (kpos := kp) ha pk_nil).run pos pins s σ H _ I h) fun ws s1 ⟨vs, H1, I1, rel, hz, q⟩ => ⟨I1.kIn, ?_⟩) rfl
  have l1 := F.len _ _ _ _ (q (s1.heap.objs.size) (I1.hok.fresh (Nat.le_refl _)))
  rw [List.length_cons, two] at l1
  have l3 : vs.length = 1 := by omega
  cases rel with
  | nil => cases l3
  | @cons y v vs' ws' r0 t0 =>
    cases t0 with
    | nil =>
      have z : wpAny (model X.prog X.w) X.A (call (.ref C) [] [(n, v)]) (EP X pins σ Q) X.xe s1 :=
        exc_make (us := []) (ws := [v]) T iC tI F hr (fun s x => hall s x v) I1 (.cons r0 .nil) (Nat.zero_le _) q
      exact z
    | cons r1 t1 =>
      rw [List.length_cons, List.length_cons] at l3
      omega
/-- an own exception with one field stands at a -/
def ExAt (H : Hp) (a C : Addr) (f : Str) (y : V) : Prop := ∃ d : Addr, H a = some (exo a C (some d)) ∧ H d = some (exd d [(f, y)])
/-- e.f -/
def tFget (C : Addr) (f : Str) (te : TE) : TE := fun σ H Q => te σ H fun x H1 => ∃ (a : Addr) (y : V), x = .ref a ∧ ExAt H1 a C f y ∧ Q y H1
theorem pe_fget {e : Expr} {te : TE} {pos : Pos} (T : OexG X.K C B newId initId bmB) (no : PySem.W.findIn X.K (.ref C) f = some none) (he : PE X e te)
    (hb : attributeBase e f X.env (eval e X.env) = eval e X.env := by rfl) : PE X (.Attribute e f pos) (tFget C f te) := by
  refine ⟨fun pins s σ H Q I h => ?_⟩
  refine attr_of hb (thn (he.run pins s σ H _ I h) fun u s1 ⟨x, H1, I1, rx, a, y, ex, ⟨dx, e1, e2⟩, q⟩ => ?_)
  subst ex
  have eu : u = Value.ref a := rx
  subst eu
  obtain ⟨t1, ho⟩ := exo_at I1.hok e1
  obtain ⟨mA, hn, rel⟩ := exd_at I1.hok e2
  obtain ⟨od, hd, look⟩ := lookIn_ns hn
  have one : List.lookup f [(f, y)] = some y := by simp [List.lookup]
  obtain ⟨v, hv, rv⟩ := RelO.some_of (v := y) (o := mA f) (by rw [← one]; exact rel f)
  have J : PySem.W.InstAt s1.heap a { cls := .ref C, dict := some dx, data := .fields #[.ref t1, .none, .none, .none, .bool false, .none] } C (some od) :=
    ⟨ho, rfl, rfl, hd⟩
  exact exc_get I1.kIn J T.ga T.gg T.ex (PySem.W.findObj_own T.hd no rfl (by rw [look, hv])) (handed_of rv) ⟨y, H1, I1.tok _, rv, q⟩
/-- isinstance(e, c), e an own exception -/
def rIsE (K : PySem.W.Frag) (C : Addr) : List V → Hp → VK → Prop := fun xs H Q => ∃ (a : Addr) (od : Option Addr) (c : V) (u : Value) (b : Bool), xs = [.ref a, c] ∧
  H a = some (exo a C od) ∧ (∀ d, od = some d → ∃ fs, H d = some (exd d fs)) ∧ ClsV c u ∧ PySem.W.kitOne K (.ref C) u = some b ∧ Q (.bl b) H
def rIsET (K : PySem.W.Frag) (C : Addr) : List V → Hp → VK → Prop := fun xs H Q => ∃ (a : Addr) (od : Option Addr) (tp : Addr) (cs : List V) (us : List Value) (b : Bool), xs = [.ref a, .ref tp] ∧
  H a = some (exo a C od) ∧ (∀ d, od = some d → ∃ fs, H d = some (exd d fs)) ∧ H tp = some (.tup cs) ∧ Paired ClsV cs us ∧ PySem.W.kitAny K (.ref C) us = some b ∧ Q (.bl b) H
theorem OexG.kit (T : OexG X.K C B newId initId bmB) {x : Addr} {ox : Obj} {od : Option Obj} :
    PySem.W.KitX X.K (.ref x) (.ref C) (fun h => PySem.W.InstAt h x ox C od) := by
  obtain ⟨nm, q, N, bs, bm, sn, sub, ab, col, dd, k0, k1, k2, k3, k5, hC, _, _⟩ := T.cls
  exact PySem.W.kitx_exc (by rw [cls_of hC]; rfl) T.ga T.gg T.ex T.cc T.cg T.ct T.cm
theorem inst_at {od : Option Addr} (I : Inv X pins σ H s) (e : H a = some (exo a C od)) (ed : ∀ d, od = some d → ∃ fs, H d = some (exd d fs)) :
    ∃ ox oo, PySem.W.InstAt s.heap a ox C oo := by
  obtain ⟨t1, ho⟩ := exo_at I.hok e
  cases od with
  | none => exact ⟨_, none, ho, rfl, rfl, trivial⟩
  | some dx =>
    obtain ⟨fs, e2⟩ := ed dx rfl
    obtain ⟨mA, ⟨o, es, ep, h1, h2⟩, _⟩ := exd_at I.hok e2
    exact ⟨_, some o, ho, rfl, rfl, h1⟩
theorem call_isE (T : OexG X.K C B newId initId bmB) : CallR X (.builtin "isinstance") (rIsE X.K C) := by
  intro pins s σ H xs us Q I r h
  obtain ⟨a, od, c, u, b, rfl, e1, e2, k, e, q⟩ := h
  obtain ⟨u1, u2, rfl, r1, r2⟩ := vals2 r
  have h1 : u1 = Value.ref a := r1
  have h2 := k.eq r2
  subst h1 h2
  obtain ⟨ox, oo, J⟩ := inst_at I e1 e2
  exact PySem.W.kia_one T.kit I.kIn J e (fun z => nomatch z) fun tk => ⟨.bl b, H, I.tok tk, rfl, q⟩
theorem call_isET (T : OexG X.K C B newId initId bmB) : CallR X (.builtin "isinstance") (rIsET X.K C) := by
  intro pins s σ H xs us Q I r h
  obtain ⟨a, od, tp, cs, ws, b, rfl, e1, e2, hT, k, e, q⟩ := h
  obtain ⟨u1, u2, rfl, r1, r2⟩ := vals2 r
  have h1 : u1 = Value.ref a := r1
  have h2 : u2 = Value.ref tp := r2
  subst h1 h2
  obtain ⟨ox, oo, J⟩ := inst_at I e1 e2
  obtain ⟨_, its, rv, o, g1, g2, n, g3⟩ := (show ObjOk X.prog X.w H s.heap tp (.tup cs) from I.hok tp _ hT)
  have e3 := ClsV.all k rv
  subst e3
  obtain ⟨oc, oe, dt, sl⟩ := o
  simp only at g2 g3
  subst g2 g3
  exact PySem.W.kia_tup T.kit I.kIn J g1 e (fun z => nomatch z) fun tk => ⟨.bl b, H, I.tok tk, rfl, q⟩
end
end G

set_option Elab.async false
set_option maxRecDepth 100000
namespace G
open PySem PySem.HandSPX L2 PySem.Spec PyProof.Rows
/-! ### an own exception without fields -/
section
variable {X : Cx} {C : Addr} {B newId initId : String} {bmB : List Value}
theorem pe_new0 {x : Str} {p pos : Pos} (F : ExcBaseFacts B newId initId bmB) (q : PySem.W.excIn X.K C bmB newId = true) (gC : X.mg x = some (.ref C))
    (kC : PySem.W.keepIn X.K (.ref C) = true) (hg : Gl X x) (hdb : (x == ("__debug__" : Str)) = false := by decide) :
    PE X (.Call (.Name x p) [] [] pos) (fun _ H Q => ∀ a, H a = none → Q (.ref a) (upd H a (ExO (.ref C) a))) := by
  refine ⟨fun pins s σ H Q I h => ?_⟩
  refine wpAny_Call_Name_kw (ld_glob I hg gC ?_ hdb)
  refine PySem.W.callWith_K0 I.kIn kC ?_
  show wpAny _ _ (call (.ref C) []) _ _ _
  obtain ⟨bm, N, nm, qn, bs, hdct, sn, sub, ab, col, dd, k0, k1, k2, k3, k5, mN, hC, hN, hni, T⟩ := exc_obj I.kIn q
  refine wpAny_call_exc_subT F T hC hN hni (fun h' a hm => ?_) (Nat.zero_le _)
  have hn : H a = none := I.hok.gone hm.new
  obtain ⟨t, ht, _, _⟩ := hm.there
  have five : 4 < 6 := by decide
  exact ⟨.ref a, _, I.laidN hm.keeps hm.new hn (exO_ok ht ⟨rfl, rfl⟩ rfl rfl rfl five), rfl, h a hn⟩
def rIsX (K : PySem.W.Frag) (C : Addr) : List V → Hp → VK → Prop := fun xs H Q => ∃ (a : Addr) (c : V) (u : Value) (b : Bool), xs = [.ref a, c] ∧
  H a = some (ExO (.ref C) a) ∧ ClsV c u ∧ PySem.W.kitOne K (.ref C) u = some b ∧ Q (.bl b) H
theorem call_isX (T : OexG X.K C B newId initId bmB) : CallR X (.builtin "isinstance") (rIsX X.K C) := by
  intro pins s σ H xs us Q I r h
  obtain ⟨a, c, u, b, rfl, e1, k, e, q⟩ := h
  obtain ⟨u1, u2, rfl, r1, r2⟩ := vals2 r
  have h1 : u1 = Value.ref a := r1
  have h2 := k.eq r2
  subst h1 h2
  obtain ⟨⟨oe, vs, ho, hz, hd, _⟩, _, _⟩ := I.hok a _ e1
  have J : PySem.W.InstAt s.heap a oe C none := ⟨ho, hz.1, by unfold PySem.W.notCls; rw [hd] <;> rfl, by rw [hz.2]; exact True.intro⟩
  exact PySem.W.kia_one T.kit I.kIn J e (fun z => nomatch z) fun tk => ⟨.bl b, H, I.tok tk, rfl, q⟩
end
/-! ### the nine __init__ -/
theorem ExAt.same {H H' : Hp} {a C : Addr} {f : Str} {y : V} (e : Same H H') (h : ExAt H a C f y) : ExAt H' a C f y :=
  let ⟨d, h1, h2⟩ := h
  ⟨d, e _ _ h1, e _ _ h2⟩
/-- a new exception at a gets its field -/
def spEx (C : Addr) (f : Str) : Sp := fun vs H Q _ => ∃ (a : Addr) (y : V), vs = [.ref a, y] ∧ H a = some (exo a C none) ∧
  ∀ H' : Hp, (∀ b o, b ≠ a → H b = some o → H' b = some o) → ExAt H' a C f y → Q .non H'
section
variable {P : Program} {w : World} {K : PySem.W.Frag} {mg : Str → Option Value} {base : Heap} {f C : Addr} {fd : FuncData} {B newId initId : String} {bmB : List Value}
abbrev sI0 : Stmt := inClass (top 2) 0
theorem scI0 : FnScope ["self", "place"] ["self", "place"] (defScope sI0) := ⟨rfl, rfl, rfl, by decide +kernel, rfl, by decide +kernel, by decide +kernel⟩
theorem ok_I0 (F : Fun K "__init__" "BadTables.__init__" sI0 f fd) (T : OexG K C B newId initId bmB) (no : PySem.W.findIn K (.ref C) "place" = some none) :
    FnOk P w K mg base CX0 1 f fd ["self", "place"] (spEx C "place") := by
  refine F.ok scI0 (fun vs H Q E h => ?_) (fun cdv A outer s H vs Q E hr h => ?_)
  · obtain ⟨a, y, rfl, _⟩ := h
    rfl
  · obtain ⟨a, y, rfl, ha, k⟩ := h
    refine ⟨_, pss_one (ps_fst T no (pv 0) (pv 1)), ?_⟩
    refine ⟨_, rfl, _, rfl, a, rfl, ha, fun dx hd ne => ?_⟩
    refine k _ (fun b o hb e => ?_) ⟨dx, upd_same, ?_⟩
    · rw [upd_ne hb, upd_ne (ne_of_none e hd)]
      exact e
    · rw [upd_ne ne, upd_same]
abbrev sI1 : Stmt := inClass (top 3) 0
theorem scI1 : FnScope ["self", "value"] ["self", "value"] (defScope sI1) := ⟨rfl, rfl, rfl, by decide +kernel, rfl, by decide +kernel, by decide +kernel⟩
theorem ok_I1 (F : Fun K "__init__" "BadWord.__init__" sI1 f fd) (T : OexG K C B newId initId bmB) (no : PySem.W.findIn K (.ref C) "value" = some none) :
    FnOk P w K mg base CX0 1 f fd ["self", "value"] (spEx C "value") := by
  refine F.ok scI1 (fun vs H Q E h => ?_) (fun cdv A outer s H vs Q E hr h => ?_)
  · obtain ⟨a, y, rfl, _⟩ := h
    rfl
  · obtain ⟨a, y, rfl, ha, k⟩ := h
    refine ⟨_, pss_one (ps_fst T no (pv 0) (pv 1)), ?_⟩
    refine ⟨_, rfl, _, rfl, a, rfl, ha, fun dx hd ne => ?_⟩
    refine k _ (fun b o hb e => ?_) ⟨dx, upd_same, ?_⟩
    · rw [upd_ne hb, upd_ne (ne_of_none e hd)]
      exact e
    · rw [upd_ne ne, upd_same]
abbrev sI2 : Stmt := inClass (top 4) 0
theorem scI2 : FnScope ["self", "value"] ["self", "value"] (defScope sI2) := ⟨rfl, rfl, rfl, by decide +kernel, rfl, by decide +kernel, by decide +kernel⟩
theorem ok_I2 (F : Fun K "__init__" "BadNumber.__init__" sI2 f fd) (T : OexG K C B newId initId bmB) (no : PySem.W.findIn K (.ref C) "value" = some none) :
    FnOk P w K mg base CX0 1 f fd ["self", "value"] (spEx C "value") := by
  refine F.ok scI2 (fun vs H Q E h => ?_) (fun cdv A outer s H vs Q E hr h => ?_)
  · obtain ⟨a, y, rfl, _⟩ := h
    rfl
  · obtain ⟨a, y, rfl, ha, k⟩ := h
    refine ⟨_, pss_one (ps_fst T no (pv 0) (pv 1)), ?_⟩
    refine ⟨_, rfl, _, rfl, a, rfl, ha, fun dx hd ne => ?_⟩
    refine k _ (fun b o hb e => ?_) ⟨dx, upd_same, ?_⟩
    · rw [upd_ne hb, upd_ne (ne_of_none e hd)]
      exact e
    · rw [upd_ne ne, upd_same]
abbrev sI3 : Stmt := inClass (top 5) 0
theorem scI3 : FnScope ["self", "value"] ["self", "value"] (defScope sI3) := ⟨rfl, rfl, rfl, by decide +kernel, rfl, by decide +kernel, by decide +kernel⟩
theorem ok_I3 (F : Fun K "__init__" "BadKind.__init__" sI3 f fd) (T : OexG K C B newId initId bmB) (no : PySem.W.findIn K (.ref C) "value" = some none) :
    FnOk P w K mg base CX0 1 f fd ["self", "value"] (spEx C "value") := by
  refine F.ok scI3 (fun vs H Q E h => ?_) (fun cdv A outer s H vs Q E hr h => ?_)
  · obtain ⟨a, y, rfl, _⟩ := h
    rfl
  · obtain ⟨a, y, rfl, ha, k⟩ := h
    refine ⟨_, pss_one (ps_fst T no (pv 0) (pv 1)), ?_⟩
    refine ⟨_, rfl, _, rfl, a, rfl, ha, fun dx hd ne => ?_⟩
    refine k _ (fun b o hb e => ?_) ⟨dx, upd_same, ?_⟩
    · rw [upd_ne hb, upd_ne (ne_of_none e hd)]
      exact e
    · rw [upd_ne ne, upd_same]
abbrev sI4 : Stmt := inClass (top 6) 0
theorem scI4 : FnScope ["self", "value"] ["self", "value"] (defScope sI4) := ⟨rfl, rfl, rfl, by decide +kernel, rfl, by decide +kernel, by decide +kernel⟩
theorem ok_I4 (F : Fun K "__init__" "BadPairs.__init__" sI4 f fd) (T : OexG K C B newId initId bmB) (no : PySem.W.findIn K (.ref C) "value" = some none) :
    FnOk P w K mg base CX0 1 f fd ["self", "value"] (spEx C "value") := by
  refine F.ok scI4 (fun vs H Q E h => ?_) (fun cdv A outer s H vs Q E hr h => ?_)
  · obtain ⟨a, y, rfl, _⟩ := h
    rfl
  · obtain ⟨a, y, rfl, ha, k⟩ := h
    refine ⟨_, pss_one (ps_fst T no (pv 0) (pv 1)), ?_⟩
    refine ⟨_, rfl, _, rfl, a, rfl, ha, fun dx hd ne => ?_⟩
    refine k _ (fun b o hb e => ?_) ⟨dx, upd_same, ?_⟩
    · rw [upd_ne hb, upd_ne (ne_of_none e hd)]
      exact e
    · rw [upd_ne ne, upd_same]
abbrev sI5 : Stmt := inClass (top 7) 0
theorem scI5 : FnScope ["self", "place"] ["self", "place"] (defScope sI5) := ⟨rfl, rfl, rfl, by decide +kernel, rfl, by decide +kernel, by decide +kernel⟩
theorem ok_I5 (F : Fun K "__init__" "BadPaper.__init__" sI5 f fd) (T : OexG K C B newId initId bmB) (no : PySem.W.findIn K (.ref C) "place" = some none) :
    FnOk P w K mg base CX0 1 f fd ["self", "place"] (spEx C "place") := by
  refine F.ok scI5 (fun vs H Q E h => ?_) (fun cdv A outer s H vs Q E hr h => ?_)
  · obtain ⟨a, y, rfl, _⟩ := h
    rfl
  · obtain ⟨a, y, rfl, ha, k⟩ := h
    refine ⟨_, pss_one (ps_fst T no (pv 0) (pv 1)), ?_⟩
    refine ⟨_, rfl, _, rfl, a, rfl, ha, fun dx hd ne => ?_⟩
    refine k _ (fun b o hb e => ?_) ⟨dx, upd_same, ?_⟩
    · rw [upd_ne hb, upd_ne (ne_of_none e hd)]
      exact e
    · rw [upd_ne ne, upd_same]
abbrev sI6 : Stmt := inClass (top 8) 0
theorem scI6 : FnScope ["self", "line"] ["self", "line"] (defScope sI6) := ⟨rfl, rfl, rfl, by decide +kernel, rfl, by decide +kernel, by decide +kernel⟩
theorem ok_I6 (F : Fun K "__init__" "BadText.__init__" sI6 f fd) (T : OexG K C B newId initId bmB) (no : PySem.W.findIn K (.ref C) "line" = some none) :
    FnOk P w K mg base CX0 1 f fd ["self", "line"] (spEx C "line") := by
  refine F.ok scI6 (fun vs H Q E h => ?_) (fun cdv A outer s H vs Q E hr h => ?_)
  · obtain ⟨a, y, rfl, _⟩ := h
    rfl
  · obtain ⟨a, y, rfl, ha, k⟩ := h
    refine ⟨_, pss_one (ps_fst T no (pv 0) (pv 1)), ?_⟩
    refine ⟨_, rfl, _, rfl, a, rfl, ha, fun dx hd ne => ?_⟩
    refine k _ (fun b o hb e => ?_) ⟨dx, upd_same, ?_⟩
    · rw [upd_ne hb, upd_ne (ne_of_none e hd)]
      exact e
    · rw [upd_ne ne, upd_same]
abbrev sI7 : Stmt := inClass (top 9) 0
theorem scI7 : FnScope ["self", "paper"] ["self", "paper"] (defScope sI7) := ⟨rfl, rfl, rfl, by decide +kernel, rfl, by decide +kernel, by decide +kernel⟩
theorem ok_I7 (F : Fun K "__init__" "Grows.__init__" sI7 f fd) (T : OexG K C B newId initId bmB) (no : PySem.W.findIn K (.ref C) "paper" = some none) :
    FnOk P w K mg base CX0 1 f fd ["self", "paper"] (spEx C "paper") := by
  refine F.ok scI7 (fun vs H Q E h => ?_) (fun cdv A outer s H vs Q E hr h => ?_)
  · obtain ⟨a, y, rfl, _⟩ := h
    rfl
  · obtain ⟨a, y, rfl, ha, k⟩ := h
    refine ⟨_, pss_one (ps_fst T no (pv 0) (pv 1)), ?_⟩
    refine ⟨_, rfl, _, rfl, a, rfl, ha, fun dx hd ne => ?_⟩
    refine k _ (fun b o hb e => ?_) ⟨dx, upd_same, ?_⟩
    · rw [upd_ne hb, upd_ne (ne_of_none e hd)]
      exact e
    · rw [upd_ne ne, upd_same]
abbrev sI8 : Stmt := inClass (top 10) 0
theorem scI8 : FnScope ["self", "most"] ["self", "most"] (defScope sI8) := ⟨rfl, rfl, rfl, by decide +kernel, rfl, by decide +kernel, by decide +kernel⟩
theorem ok_I8 (F : Fun K "__init__" "TooMany.__init__" sI8 f fd) (T : OexG K C B newId initId bmB) (no : PySem.W.findIn K (.ref C) "most" = some none) :
    FnOk P w K mg base CX0 1 f fd ["self", "most"] (spEx C "most") := by
  refine F.ok scI8 (fun vs H Q E h => ?_) (fun cdv A outer s H vs Q E hr h => ?_)
  · obtain ⟨a, y, rfl, _⟩ := h
    rfl
  · obtain ⟨a, y, rfl, ha, k⟩ := h
    refine ⟨_, pss_one (ps_fst T no (pv 0) (pv 1)), ?_⟩
    refine ⟨_, rfl, _, rfl, a, rfl, ha, fun dx hd ne => ?_⟩
    refine k _ (fun b o hb e => ?_) ⟨dx, upd_same, ?_⟩
    · rw [upd_ne hb, upd_ne (ne_of_none e hd)]
      exact e
    · rw [upd_ne ne, upd_same]
end
/-! ### the values -/
abbrev sValue : Stmt := top 14
/-- what is asked of a datum for repr -/
structure Fit (d : PyData) : Prop where
  sh : d.showable = true
  len : d.shown.length ≤ sizeLine
  dep : d.depth ≤ 60
def spValue (K : PySem.W.Frag) : Sp := fun vs H Q _ => ∃ (m : Addr) (G : Hp) (T : Int), vs = [.ref m] ∧ Mst G H m T ∧ T ≤ 1000000000 ∧
  ∀ (v : V) (d : PyData) (H' : Hp), Dq K H' v d → Fit d → Mst G H' m (T + 1) → Q v H'
theorem Mst.weaken {G G' H : Hp} {m : Addr} {T : Int} (S : Mst G' H m T) (s : Same G G') : Mst G H m T :=
  let ⟨c, l, cs, ls, t, M, e⟩ := S
  ⟨c, l, cs, ls, t, ⟨s.trans M.sm, s.free M.gm, s.free M.gl, s.free M.gc, M.hm, M.hc, M.hl, M.cl, M.nc, M.nl, M.ge, M.t0⟩, e⟩
theorem fit_small {d : PyData} (h1 : d.showable = true) (h2 : decide (d.shown.length ≤ 100) = true) (h3 : decide (d.depth ≤ 60) = true) : Fit d :=
  ⟨h1, Nat.le_trans (of_decide_eq_true h2) (by decide), of_decide_eq_true h3⟩
section
variable {P : Program} {w : World} {K : PySem.W.Frag} {mg : Str → Option Value} {base : Heap} {f fN : Addr} {fd fdN : FuncData}
structure TxV (K : PySem.W.Frag) (mg : Str → Option Value) (fN : Addr) : Prop where
  next : mg "_law_next" = some (.ref fN)
  kn : PySem.W.keepIn K (.ref fN) = true
theorem scV : FnScope ["m"] ["m"] (defScope sValue) := ⟨rfl, rfl, rfl, by decide +kernel, rfl, by decide +kernel, by decide +kernel⟩
theorem ok_value (F : Fun K "_law_value" "_law_value" sValue f fd) (T : TxV K mg fN) (GN : FnOk P w K mg base CX0 1 fN fdN ["m", "many"] spNext) (bN : Binds K fdN ["m", "many"] []) :
    FnOk P w K mg base CX0 2 f fd ["m"] (spValue K) := by
  refine F.ok scV (fun vs H Q E h => ?_) (fun cdv A outer s H vs Q E hr h => ?_)
  · obtain ⟨m, G, T, rfl, _⟩ := h
    rfl
  · obtain ⟨m, G, Tm, rfl, M, hT, k⟩ := h
    refine ⟨_, pss_one (ps_ret (pe_ix ix_list (pe_lst (pa_cons pe_non (pa_cons pe_int (pa_cons pe_int (pa_cons (pe_un un_neg pe_int) (pa_cons pe_str (pa_cons pe_str (pa_cons (pe_tup pa_nil)
      (pa_cons (pe_tup (pa_cons pe_int (pa_cons pe_int pa_nil))) (pa_cons (pe_lst pa_nil) (pa_cons pe_dnewK (pa_cons pe_bl (pa_cons (pe_op op_pow pe_int pe_int) pa_nil)))))))))))))
      (pe_call GN hr rfl T.next T.kn bN .nil pass0 (pa_cons (pv 0) (pa_cons pe_int pa_nil))) (fun _ _ => rfl))), ?_⟩
    refine ⟨_, rfl, Nat.zero_le _, fun p1 h1 => ?_⟩
    refine ⟨(by show 2 ≤ sizeLine; decide), fun p2 h2 => ⟨Nat.zero_le _, fun p3 h3 p4 h4 => ?_⟩⟩
    have M1 := M.grow (o := .tup []) h1
    have M2 := M1.grow (o := .tup [.int 1, .int 2]) h2
    have M3 := M2.grow (o := .lst []) h3
    have M4 := M3.grow (o := .dK []) h4
    refine ⟨_, _, rfl, rfl, ⟨by decide, by decide, by decide⟩, (by show 12 ≤ sizeLine; decide), fun p5 h5 => ?_⟩
    have M5 := M4.grow (o := .lst [.non, .int 0, .int 5, .int (-1), .str "a", .str "", .ref p1, .ref p2, .ref p3, .ref p4, .bl true, .int (10 ^ 30)]) h5
    have g1 := M.sm.free h1
    have g2 := M1.sm.free h2
    have g3 := M2.sm.free h3
    have g4 := M3.sm.free h4
    have g5 := M4.sm.free h5
    have s5 := same_new (o := .lst [.non, .int 0, .int 5, .int (-1), .str "a", .str "", .ref p1, .ref p2, .ref p3, .ref p4, .bl true, .int (10 ^ 30)]) g5
    have s4 := (same_new (o := .dK []) g4).trans s5
    have s3 := (same_new (o := .lst []) g3).trans s4
    have s2 := (same_new (o := .tup [.int 1, .int 2]) g2).trans s3
    have s1 := (same_new (o := .tup []) g1).trans s2
    refine ⟨_, rfl, m, 12, _, Tm, rfl, M5, hT, by decide, by decide, fun r H' r0 r1 M6 => ?_⟩
    have sm := M6.sm
    have e1 := sm _ _ (s2 _ _ (upd_same (H := G) (a := p1) (o := .tup [])))
    have e2 := sm _ _ (s3 _ _ (upd_same (a := p2) (o := .tup [.int 1, .int 2])))
    have e3 := sm _ _ (s4 _ _ (upd_same (a := p3) (o := .lst [])))
    have e4 := sm _ _ (s5 _ _ (upd_same (a := p4) (o := .dK [])))
    have e5 := sm _ _ (upd_same (a := p5) (o := .lst [.non, .int 0, .int 5, .int (-1), .str "a", .str "", .ref p1, .ref p2, .ref p3, .ref p4, .bl true, .int (10 ^ 30)]))
    obtain ⟨v, hv, hm⟩ := mod_at (xs := [.non, .int 0, .int 5, .int (-1), .str "a", .str "", .ref p1, .ref p2, .ref p3, .ref p4, .bl true, .int (10 ^ 30)]) (j := r) r0 r1
    refine ⟨p5, _, r, v, rfl, rfl, SqL.of e5, hv, ?_⟩
    have fin : ∀ d, Dq K H' v d → Fit d → Q v H' := fun d h1 h2 => k v d H' h1 h2 (M6.weaken s1)
    simp only [List.mem_cons, List.not_mem_nil, or_false] at hm
    rcases hm with rfl | rfl | rfl | rfl | rfl | rfl | rfl | rfl | rfl | rfl | rfl | rfl
    · exact fin .none (.inl .non) (fit_small rfl (by decide +kernel) (by decide +kernel))
    · exact fin (.int 0) (.inl (.int _)) (fit_small (by decide +kernel) (by decide +kernel) (by decide +kernel))
    · exact fin (.int 5) (.inl (.int _)) (fit_small (by decide +kernel) (by decide +kernel) (by decide +kernel))
    · exact fin (.int (-1)) (.inl (.int _)) (fit_small (by decide +kernel) (by decide +kernel) (by decide +kernel))
    · exact fin (.str "a") (.inl (.str _)) (fit_small rfl (by decide +kernel) (by decide +kernel))
    · exact fin (.str "") (.inl (.str _)) (fit_small rfl (by decide +kernel) (by decide +kernel))
    · exact fin (.tuple []) (.inl (.tup (SqT.of e1) .nil)) (fit_small (by decide +kernel) (by decide +kernel) (by decide +kernel))
    · exact fin (.tuple [.int 1, .int 2]) (.inl (.tup (SqT.of e2) (.cons (.int _) (.cons (.int _) .nil)))) (fit_small (by decide +kernel) (by decide +kernel) (by decide +kernel))
    · exact fin (.list []) (.inl (.lst (SqL.of e3) .nil)) (fit_small (by decide +kernel) (by decide +kernel) (by decide +kernel))
    · exact fin (.dict []) (.inr (.dct e4)) (fit_small (by decide +kernel) (by decide +kernel) (by decide +kernel))
    · exact fin (.bool true) (.inl (.bl _)) (fit_small rfl (by decide +kernel) (by decide +kernel))
    · exact fin (.int (10 ^ 30)) (.inl (.int _)) (fit_small (by decide +kernel) (by decide +kernel) (by decide +kernel))
end
end G

set_option Elab.async false
set_option maxRecDepth 100000
namespace G
open PySem PySem.HandSPX L2 PySem.Spec PyProof.Rows
/-- the fields of the nine -/
def fld : Nat → Str
  | 0 => "place"
  | 1 => "value"
  | 2 => "value"
  | 3 => "value"
  | 4 => "value"
  | 5 => "place"
  | 6 => "line"
  | 7 => "paper"
  | _ => "most"
/-- the nine classes, and GrowthError -/
structure Nine (K : PySem.W.Frag) (mg : Str → Option Value) (cs : Nat → Addr) (cg : Addr) : Prop where
  ex : ∀ i, i < 9 → ∃ (B ni ii : String) (bm : List Value), OexG K (cs i) B ni ii bm
  no : ∀ i, i < 9 → PySem.W.findIn K (.ref (cs i)) (fld i) = some none
  kit : ∀ i k, i < 9 → k < 9 → PySem.W.kitOne K (.ref (cs i)) (.ref (cs k)) = some (decide (k = i))
  kG : ∀ i, i < 9 → PySem.W.kitOne K (.ref (cs i)) (.ref cg) = some (decide (i < 7))
  kV : ∀ i, i < 9 → PySem.W.kitOne K (.ref (cs i)) (.type "ValueError") = some (decide (i < 7))
  kL : ∀ i, i < 9 → PySem.W.kitOne K (.ref (cs i)) (.type "LookupError") = some (decide (i = 7))
  kO : ∀ i, i < 9 → PySem.W.kitOne K (.ref (cs i)) (.type "OverflowError") = some (decide (i = 8))
  kK : ∀ i, i < 9 → PySem.W.kitOne K (.ref (cs i)) (.type "KeyError") = some false
  kI : ∀ i, i < 9 → PySem.W.kitOne K (.ref (cs i)) (.type "IndexError") = some false
  g0 : mg "BadTables" = some (.ref (cs 0))
  g1 : mg "BadWord" = some (.ref (cs 1))
  g2 : mg "BadNumber" = some (.ref (cs 2))
  g3 : mg "BadKind" = some (.ref (cs 3))
  g4 : mg "BadPairs" = some (.ref (cs 4))
  g5 : mg "BadPaper" = some (.ref (cs 5))
  g6 : mg "BadText" = some (.ref (cs 6))
  g7 : mg "Grows" = some (.ref (cs 7))
  g8 : mg "TooMany" = some (.ref (cs 8))
  gG : mg "GrowthError" = some (.ref cg)
  isi : mg "isinstance" = none
/-- isinstance of an own exception, of whatever class -/
def rIsA (K : PySem.W.Frag) : List V → Hp → VK → Prop := fun xs H Q => ∃ (C : Addr) (B ni ii : String) (bm : List Value), OexG K C B ni ii bm ∧ rIsE K C xs H Q
def rIsAT (K : PySem.W.Frag) : List V → Hp → VK → Prop := fun xs H Q => ∃ (C : Addr) (B ni ii : String) (bm : List Value), OexG K C B ni ii bm ∧ rIsET K C xs H Q
/-- e.f, e an own exception of whatever class -/
def tFgetA (K : PySem.W.Frag) (f : Str) (te : TE) : TE := fun σ H Q => te σ H fun x H1 => ∃ (a : Addr) (y : V) (C : Addr) (B ni ii : String) (bm : List Value), OexG K C B ni ii bm ∧
  PySem.W.findIn K (.ref C) f = some none ∧ x = .ref a ∧ ExAt H1 a C f y ∧ Q y H1
section
variable {X : Cx}
theorem call_isA : CallR X (.builtin "isinstance") (rIsA X.K) := by
  intro pins s σ H xs us Q I r h
  obtain ⟨C, B, ni, ii, bm, T, h⟩ := h
  exact call_isE T pins s σ H xs us Q I r h
theorem call_isAT : CallR X (.builtin "isinstance") (rIsAT X.K) := by
  intro pins s σ H xs us Q I r h
  obtain ⟨C, B, ni, ii, bm, T, h⟩ := h
  exact call_isET T pins s σ H xs us Q I r h
theorem peC {x : Str} {C : Addr} {pos : Pos} (g : X.mg x = some (.ref C)) (hg : Gl X x := by rfl) (h1 : (x == ("__debug__" : Str)) = false := by decide) : PE X (.Name x pos) (tC (.ref C)) := pe_glob (v := .ref C) hg g rfl h1
theorem pe_fgetA {f : Str} {e : Expr} {te : TE} {pos : Pos} (he : PE X e te)
    (hb : attributeBase e f X.env (eval e X.env) = eval e X.env := by rfl) : PE X (.Attribute e f pos) (tFgetA X.K f te) := by
  refine ⟨fun pins s σ H Q I h => ?_⟩
  refine attr_of hb (thn (he.run pins s σ H _ I h) fun u s1 ⟨x, H1, I1, rx, a, y, C, B, ni, ii, bm, T, no, ex, ⟨dx, e1, e2⟩, q⟩ => ?_)
  subst ex
  have eu : u = Value.ref a := rx
  subst eu
  obtain ⟨t1, ho⟩ := exo_at I1.hok e1
  obtain ⟨mA, hn, rel⟩ := exd_at I1.hok e2
  obtain ⟨od, hd, look⟩ := lookIn_ns hn
  have one : List.lookup f [(f, y)] = some y := by simp [List.lookup]
  obtain ⟨v, hv, rv⟩ := RelO.some_of (v := y) (o := mA f) (by rw [← one]; exact rel f)
  have J : PySem.W.InstAt s1.heap a { cls := .ref C, dict := some dx, data := .fields #[.ref t1, .none, .none, .none, .bool false, .none] } C (some od) :=
    ⟨ho, rfl, rfl, hd⟩
  exact exc_get I1.kIn J T.ga T.gg T.ex (PySem.W.findObj_own T.hd no rfl (by rw [look, hv])) (handed_of rv) ⟨y, H1, I1.tok _, rv, q⟩
end
section
variable {K : PySem.W.Frag} {mg : Str → Option Value} {cs : Nat → Addr} {cg : Addr} {H : Hp} {a : Addr} {y : V} {Q : VK}
theorem Nine.is {i : Nat} {c : V} {u : Value} {b : Bool} (N : Nine K mg cs cg) (e : ExAt H a (cs i) (fld i) y) (hi : i < 9) (k : ClsV c u)
    (h : PySem.W.kitOne K (.ref (cs i)) u = some b) (q : Q (.bl b) H) : rIsA K [.ref a, c] H Q := by
  obtain ⟨B, ni, ii, bm, T⟩ := N.ex i hi
  obtain ⟨d, e1, e2⟩ := e
  exact ⟨cs i, B, ni, ii, bm, T, a, some d, c, u, b, rfl, e1, fun d' z => ⟨_, (Option.some.inj z) ▸ e2⟩, k, h, q⟩
theorem Nine.own {i k : Nat} (N : Nine K mg cs cg) (e : ExAt H a (cs i) (fld i) y) (hi : i < 9) (hk : k < 9) (q : Q (.bl (decide (k = i))) H) :
    rIsA K [.ref a, .ref (cs k)] H Q := N.is e hi (.own _) (N.kit i k hi hk) q
theorem Nine.any {i : Nat} {tp : Addr} {xs : List V} {us : List Value} {b : Bool} (N : Nine K mg cs cg) (e : ExAt H a (cs i) (fld i) y) (hi : i < 9) (ht : H tp = some (.tup xs)) (k : Paired ClsV xs us)
    (h : PySem.W.kitAny K (.ref (cs i)) us = some b) (q : Q (.bl b) H) : rIsAT K [.ref a, .ref tp] H Q := by
  obtain ⟨B, ni, ii, bm, T⟩ := N.ex i hi
  obtain ⟨d, e1, e2⟩ := e
  exact ⟨cs i, B, ni, ii, bm, T, a, some d, tp, xs, us, b, rfl, e1, fun d' z => ⟨_, (Option.some.inj z) ▸ e2⟩, ht, k, h, q⟩
end
/-- kitAny over a list, from the answers one by one -/
theorem any_of {K : PySem.W.Frag} {t : Value} : ∀ {us : List Value} {bs : List Bool}, Paired (fun u b => PySem.W.kitOne K t u = some b) us bs → PySem.W.kitAny K t us = some (bs.any id)
  | _, _, .nil => rfl
  | _, _, .cons (a := u) (b := b) h t => by
    refine kitAny_cons h (fun e => ?_) (fun e => ?_)
    · rw [any_of t, e]
      rfl
    · rw [e]
      rfl
/-! ### _law_kinds -/
abbrev sKinds : Stmt := top 15
def kindsV (i : Nat) : List V := (List.range 9).map fun k => .bl (decide (k = i))
def spKinds (cs : Nat → Addr) : Sp := fun vs H Q _ => ∃ (a : Addr) (i : Nat) (y : V), vs = [.ref a] ∧ i < 9 ∧ ExAt H a (cs i) (fld i) y ∧
  ∀ (p : Addr) (H' : Hp), Same H H' → H' p = some (.lst (kindsV i)) → Q (.ref p) H'
section
variable {P : Program} {w : World} {K : PySem.W.Frag} {mg : Str → Option Value} {base : Heap} {f cg : Addr} {fd : FuncData} {cs : Nat → Addr}
theorem boot_isi : bootBuiltins "isinstance" = some (.builtin "isinstance") := by decide +kernel
theorem scK : FnScope ["one", "found"] ["one"] (defScope sKinds) := ⟨rfl, rfl, rfl, by decide +kernel, rfl, by decide +kernel, by decide +kernel⟩
theorem ok_kinds (F : Fun K "_law_kinds" "_law_kinds" sKinds f fd) (N : Nine K mg cs cg) : FnOk P w K mg base CX0 1 f fd ["one"] (spKinds cs) := by
  refine F.ok scK (fun vs H Q E h => ?_) (fun cdv A outer s H vs Q E hr h => ?_)
  · obtain ⟨a, i, y, rfl, _⟩ := h
    rfl
  · obtain ⟨a, i, y, rfl, hi, e, k⟩ := h
    refine ⟨_, pss_cons (ps_set (i := 1) scK.nd rfl (Or.inl rfl) (pe_lst (pa_cons (pe_callB call_isA (by rfl) N.isi boot_isi (pa_cons (pv 0) (pa_cons (peC N.g0) pa_nil)))
        (pa_cons (pe_callB call_isA (by rfl) N.isi boot_isi (pa_cons (pv 0) (pa_cons (peC N.g1) pa_nil)))
        (pa_cons (pe_callB call_isA (by rfl) N.isi boot_isi (pa_cons (pv 0) (pa_cons (peC N.g2) pa_nil))) pa_nil)))))
      (pss_cons (ps_set (i := 1) scK.nd rfl (Or.inl rfl) (pe_op op_cat (pv 1) (pe_lst (pa_cons (pe_callB call_isA (by rfl) N.isi boot_isi (pa_cons (pv 0) (pa_cons (peC N.g3) pa_nil)))
        (pa_cons (pe_callB call_isA (by rfl) N.isi boot_isi (pa_cons (pv 0) (pa_cons (peC N.g4) pa_nil)))
        (pa_cons (pe_callB call_isA (by rfl) N.isi boot_isi (pa_cons (pv 0) (pa_cons (peC N.g5) pa_nil))) pa_nil))))))
      (pss_one (ps_ret (pe_op op_cat (pv 1) (pe_lst (pa_cons (pe_callB call_isA (by rfl) N.isi boot_isi (pa_cons (pv 0) (pa_cons (peC N.g6) pa_nil)))
        (pa_cons (pe_callB call_isA (by rfl) N.isi boot_isi (pa_cons (pv 0) (pa_cons (peC N.g7) pa_nil)))
        (pa_cons (pe_callB call_isA (by rfl) N.isi boot_isi (pa_cons (pv 0) (pa_cons (peC N.g8) pa_nil))) pa_nil)))))))), ?_⟩
    refine ⟨_, rfl, N.own (k := 0) e hi (by decide) ⟨_, rfl, N.own (k := 1) e hi (by decide) ⟨_, rfl, N.own (k := 2) e hi (by decide) ⟨(by show 3 ≤ sizeLine; decide), fun p1 h1 => ?_⟩⟩⟩⟩
    have s1 := same_new (o := .lst [.bl (decide (0 = i)), .bl (decide (1 = i)), .bl (decide (2 = i))]) h1
    have e1 := e.same s1
    refine ⟨_, rfl, _, rfl, N.own (k := 3) e1 hi (by decide) ⟨_, rfl, N.own (k := 4) e1 hi (by decide) ⟨_, rfl, N.own (k := 5) e1 hi (by decide) ⟨(by show 3 ≤ sizeLine; decide), fun p2 h2 => ?_⟩⟩⟩⟩
    have s2 := same_new (o := .lst [.bl (decide (3 = i)), .bl (decide (4 = i)), .bl (decide (5 = i))]) h2
    refine ⟨p1, p2, _, _, rfl, rfl, s2 _ _ upd_same, upd_same, (by show 6 ≤ sizeLine; decide), fun p3 h3 => ?_⟩
    have s3 := same_new (o := .lst [.bl (decide (0 = i)), .bl (decide (1 = i)), .bl (decide (2 = i)), .bl (decide (3 = i)), .bl (decide (4 = i)), .bl (decide (5 = i))]) h3
    have e3 := (e1.same s2).same s3
    refine ⟨_, rfl, _, rfl, N.own (k := 6) e3 hi (by decide) ⟨_, rfl, N.own (k := 7) e3 hi (by decide) ⟨_, rfl, N.own (k := 8) e3 hi (by decide) ⟨(by show 3 ≤ sizeLine; decide), fun p4 h4 => ?_⟩⟩⟩⟩
    have s4 := same_new (o := .lst [.bl (decide (6 = i)), .bl (decide (7 = i)), .bl (decide (8 = i))]) h4
    refine ⟨p3, p4, _, _, rfl, rfl, s4 _ _ upd_same, upd_same, (by show 9 ≤ sizeLine; decide), fun p5 h5 => ?_⟩
    exact k p5 _ ((((s1.trans s2).trans s3).trans s4).trans (same_new h5)) upd_same
end
end G

set_option Elab.async false
set_option maxRecDepth 100000
namespace G
open PySem PySem.HandSPX L2 PySem.Spec PyProof.Rows
/-! ### a new exception of one of the nine -/
structure Ini (P : Program) (w : World) (K : PySem.W.Frag) (mg : Str → Option Value) (base : Heap) (C : Addr) (f : Str) : Prop where
  ex : ∃ (fI : Addr) (fd : FuncData) (B ni ii : String) (bm : List Value), FnOk P w K mg base CX0 1 fI fd ["self", f] (spEx C f) ∧ OexG K C B ni ii bm ∧
    PySem.W.findIn K (.ref C) "__init__" = some (some (.ref fI)) ∧ PySem.W.typeIn K (.ref fI) = some (.type "function") ∧
    (∀ (s : Shared) (us : List Value), us.length = 2 → BindsTo s fd ⟨us, []⟩ ((["self", f] : List Str).zip us)) ∧
    ∀ (s : Shared) (u v : Value), BindsTo s fd ⟨[u], [(f, v)]⟩ ((["self", f] : List Str).zip [u, v])
def tNewV (i : Nat) (C : Addr) (f : Str) : TE := fun σ H Q => ∃ y, σ[i]? = some (some y) ∧ ∀ (a : Addr) (H2 : Hp), Same H H2 → H a = none → ExAt H2 a C f y → Q (.ref a) H2
theorem ex_wish {H : Hp} {C : Addr} {f : Str} {y : V} {Q : VK} (h : ∀ (a : Addr) (H2 : Hp), Same H H2 → H a = none → ExAt H2 a C f y → Q (.ref a) H2) (a : Addr) (ha : H a = none) :
    spEx C f [.ref a, y] (upd H a (exo a C none)) (fun v H2 => v = .non ∧ Q (.ref a) H2) fun _ _ _ => False := by
  refine ⟨a, y, rfl, upd_same, fun H' k e => ⟨rfl, h a H' (fun b o z => ?_) ha e⟩⟩
  have ne := ne_of_none z ha
  exact k b o ne (by rw [upd_ne ne]; exact z)
section
variable {X : Cx} {C : Addr} {f x z : Str} {i : Nat} {p p2 pos kp : Pos}
theorem pe_new1 (I : Ini X.prog X.w X.K X.mg X.base C f) (hr : Room 2 X.A) (hm : X.mg x = some (.ref C)) (he : PE X (.Name z p2) (tVar i)) (hg : Gl X x := by rfl)
    (hdb : (x == ("__debug__" : Str)) = false := by decide) (hst : starEach [.Name z p2] X.env = (false, eval (.Name z p2) X.env) :: starEach [] X.env := by rfl)
    (hpl : (backTo pos (starEach [] X.env)).any (·.1) = false := by rfl) (hs2 : starEach [.Name z p2] X.env = (false, eval (.Name z p2) X.env) :: starEach [] X.env := by rfl) :
    PE X (.Call (.Name x p) [.Name z p2] [] pos) (tNewV i C f) := by
  obtain ⟨fI, fd, B, ni, ii, bm, F, T, h1, h2, h3, _⟩ := I.ex
  refine ⟨fun pins s σ H Q J h => ?_⟩
  obtain ⟨y, hy, k⟩ := h
  exact (pe_excV T h1 h2 F hr hg hm (pa_cons he pa_nil hs2) h3 hdb hst hpl).run pins s σ H Q J ⟨y, hy, (by show 1 ≤ 1000; decide), fun a ha => ex_wish k a ha⟩
theorem pe_newK (I : Ini X.prog X.w X.K X.mg X.base C f) (hr : Room 2 X.A) (hm : X.mg x = some (.ref C)) (he : PE X (.Name z p2) (tVar i)) (hg : Gl X x := by rfl)
    (hdb : (x == ("__debug__" : Str)) = false := by decide) :
    PE X (.Call (.Name x p) [] [⟨some f, .Name z p2, kp⟩] pos) (tNewV i C f) := by
  obtain ⟨fI, fd, B, ni, ii, bm, F, T, h1, h2, _, h4⟩ := I.ex
  refine ⟨fun pins s σ H Q J h => ?_⟩
  obtain ⟨y, hy, k⟩ := h
  exact (pe_excK T h1 h2 F hr hg hm he rfl h4 hdb).run pins s σ H Q J ⟨y, hy, (by show 1 ≤ 1000; decide), fun a ha => ex_wish k a ha⟩
end
/-! ### lists of bools that are alike -/
theorem dp_bools {K : PySem.W.Frag} {H : Hp} : ∀ bs : List Bool, DpAll K H (bs.map V.bl) (bs.map PyData.bool)
  | [] => .nil
  | b :: bs => .cons (.bl b) (dp_bools bs)
theorem lay_bools : ∀ bs : List Bool, PyData.canLayAll0 (bs.map PyData.bool) = true
  | [] => by simp [PyData.canLayAll0]
  | b :: bs => by simp [PyData.canLayAll0, PyData.canLay0, lay_bools bs]
theorem depth_bools : ∀ bs : List Bool, PyData.depthAll (bs.map PyData.bool) ≤ 1
  | [] => by simp [PyData.depthAll]
  | b :: bs => by
    have h := depth_bools bs
    simp only [List.map_cons, PyData.depthAll, PyData.depth]
    omega
theorem lay_boolL (bs : List Bool) : (PyData.list (bs.map PyData.bool)).canLay0 = true := by
  simp only [PyData.canLay0]
  exact lay_bools bs
theorem shaped_bools (bs : List Bool) : SeqAt.shaped (.list (bs.map PyData.bool)) = true := by
  have h := depth_bools bs
  unfold SeqAt.shaped
  rw [Bool.and_eq_true, decide_eq_true_eq]
  refine ⟨lay_boolL bs, ?_⟩
  simp only [PyData.depth]
  omega
def rNeB (K : PySem.W.Frag) : R2 := fun x y H Q => ∃ (a b : Addr) (bs : List Bool), x = .ref a ∧ y = .ref b ∧ SqL K H a (bs.map V.bl) ∧ SqL K H b (bs.map V.bl) ∧ Q (.bl false) H
section
variable {X : Cx}
theorem op_neB (hu : X.A.units + 64 < cLine) : OpR X (compareOp .NotEq) (rNeB X.K) := by
  intro pins s σ H x y v u Q I rx ry h
  obtain ⟨a, b, bs, rfl, rfl, ha, hb, q⟩ := h
  refine op_neD hu pins s σ H _ _ v u Q I rx ry ⟨.list (bs.map PyData.bool), .list (bs.map PyData.bool), .lst ha (dp_bools bs), .lst hb (dp_bools bs), shaped_bools bs, shaped_bools bs, ?_⟩
  rw [SeqAt.eqv_refl _ (lay_boolL bs)]
  exact q
end
/-- a for over enumerate(list) -/
theorem for_enum {K : PySem.W.Frag} {a : Addr} {xs : List V} {g : TG} {tb : TS} {D : Ends} {σ : L2.St} {H : Hp} (Pv : Nat → L2.St → Hp → Prop) (h0 : Pv 0 σ H) (hl : ∀ i σ H, Pv i σ H → SqL K H a xs)
    (hs : ∀ i x σ H T, xs[i]? = some x → Pv i σ H → H T = none → g (.ref T) σ (upd H T (.tup [.int (i : Nat), x])) fun σ2 H2 => tb { D with nx := Pv (i + 1), ct := Pv (i + 1), bk := D.nx } σ2 H2)
    (hd : ∀ σ H, Pv xs.length σ H → D.nx σ H) :
    ∃ W : Nat → Nat → L2.St → Hp → Prop, (∃ m, W 0 m σ H) ∧ ∀ i m σ H, W i m σ H →
      ((Ite K a).stop i H ∧ D.nx σ H) ∨ ((Ite K a).go i H ∧ ∃ N : L2.St → Hp → Prop, (∀ σ' H', N σ' H' → ∃ m', m' < m ∧ W (i + 1) m' σ' H') ∧
        ∀ x H', (Ite K a).yld i H x H' → g x σ H' fun σ2 H2 => tb { D with nx := N, ct := N, bk := D.nx } σ2 H2) := by
  refine ⟨fun i m σ H => m + i = xs.length ∧ Pv i σ H, ⟨xs.length, rfl, h0⟩, ?_⟩
  rintro i m σ H ⟨hm, p⟩
  have q := hl i σ H p
  cases e : xs[i]? with
  | none =>
    have hi : xs.length ≤ i := List.getElem?_eq_none_iff.mp e
    refine .inl ⟨⟨xs, q, hi⟩, hd σ H ?_⟩
    have ei : i = xs.length := by omega
    rw [← ei]
    exact p
  | some x =>
    have hi : i < xs.length := (List.getElem?_eq_some_iff.mp e).1
    refine .inr ⟨⟨xs, x, q, e⟩, Pv (i + 1), fun σ' H' p' => ⟨m - 1, by omega, by omega, p'⟩, ?_⟩
    rintro v H' ⟨T, x', rfl, hT, rfl, all⟩
    have ex := all xs q
    rw [e] at ex
    cases ex
    exact hs i x σ H T e p hT
/-! ### _law_field -/
abbrev sField : Stmt := top 16
def spField (cs : Nat → Addr) : Sp := fun vs H Q _ => ∃ (a : Addr) (i : Nat) (y : V), vs = [.ref a] ∧ i < 9 ∧ ExAt H a (cs i) (fld i) y ∧ ∀ H' : Hp, Same H H' → Q y H'
section
variable {P : Program} {w : World} {K : PySem.W.Frag} {mg : Str → Option Value} {base : Heap} {f cg : Addr} {fd : FuncData} {cs : Nat → Addr}
theorem scF : FnScope ["one"] ["one"] (defScope sField) := ⟨rfl, rfl, rfl, by decide +kernel, rfl, by decide +kernel, by decide +kernel⟩
theorem Nine.get {H : Hp} {a : Addr} {y : V} {Q : VK} {i : Nat} {n : Str} (N : Nine K mg cs cg) (e : ExAt H a (cs i) (fld i) y) (hi : i < 9) (hn : fld i = n) (q : Q y H) :
    ∃ (a' : Addr) (y' : V) (C : Addr) (B ni ii : String) (bm : List Value), OexG K C B ni ii bm ∧ PySem.W.findIn K (.ref C) n = some none ∧ V.ref a = .ref a' ∧ ExAt H a' C n y' ∧ Q y' H := by
  subst hn
  obtain ⟨B, ni, ii, bm, T⟩ := N.ex i hi
  exact ⟨a, y, cs i, B, ni, ii, bm, T, N.no i hi, rfl, e, q⟩
theorem ok_field (F : Fun K "_law_field" "_law_field" sField f fd) (N : Nine K mg cs cg) : FnOk P w K mg base CX0 1 f fd ["one"] (spField cs) := by
  refine F.ok scF (fun vs H Q E h => ?_) (fun cdv A outer s H vs Q E hr h => ?_)
  · obtain ⟨a, i, y, rfl, _⟩ := h
    rfl
  · obtain ⟨a, i, y, rfl, hi, e, k⟩ := h
    refine ⟨_, pss_cons (ps_if (pt_val (pe_callB call_isAT (by rfl) N.isi boot_isi (pa_cons (pv 0) (pa_cons (pe_tup (pa_cons (peC N.g0) (pa_cons (peC N.g5) pa_nil))) pa_nil)))) (pss_one (ps_ret (pe_fgetA (pv 0)))) pss_nil)
      (pss_cons (ps_if (pt_val (pe_callB call_isAT (by rfl) N.isi boot_isi (pa_cons (pv 0) (pa_cons (pe_tup (pa_cons (peC N.g1) (pa_cons (peC N.g2) (pa_cons (peC N.g3) (pa_cons (peC N.g4) pa_nil))))) pa_nil)))) (pss_one (ps_ret (pe_fgetA (pv 0)))) pss_nil)
      (pss_cons (ps_if (pt_val (pe_callB call_isA (by rfl) N.isi boot_isi (pa_cons (pv 0) (pa_cons (peC N.g6) pa_nil)))) (pss_one (ps_ret (pe_fgetA (pv 0)))) pss_nil)
      (pss_one (ps_ret (pe_ifExp (pt_val (pe_callB call_isA (by rfl) N.isi boot_isi (pa_cons (pv 0) (pa_cons (peC N.g7) pa_nil)))) (pe_fgetA (pv 0)) (pe_fgetA (pv 0))))))), ?_⟩
    refine ⟨_, rfl, (by show 2 ≤ sizeLine; decide), fun p1 h1 => ?_⟩
    have s1 := same_new (o := .tup [.ref (cs 0), .ref (cs 5)]) h1
    have e1 := e.same s1
    refine N.any e1 hi upd_same (.cons (.own _) (.cons (.own _) .nil)) (any_of (.cons (N.kit i 0 hi (by decide)) (.cons (N.kit i 5 hi (by decide)) .nil))) ⟨_, rfl, ?_⟩
    refine ite2 (fun h => ?_) (fun h => ?_)
    · refine ⟨_, rfl, N.get e1 hi ?_ (k _ s1)⟩
      simp only [List.any_cons, List.any_nil, id_eq, Bool.or_eq_true, decide_eq_true_eq, Bool.or_false] at h
      rcases h with h | h <;> (subst h; rfl)
    · refine ⟨_, rfl, (by show 4 ≤ sizeLine; decide), fun p2 h2 => ?_⟩
      have s2 := s1.trans (same_new (o := .tup [.ref (cs 1), .ref (cs 2), .ref (cs 3), .ref (cs 4)]) h2)
      have e2 := e.same s2
      refine N.any e2 hi upd_same (.cons (.own _) (.cons (.own _) (.cons (.own _) (.cons (.own _) .nil))))
        (any_of (.cons (N.kit i 1 hi (by decide)) (.cons (N.kit i 2 hi (by decide)) (.cons (N.kit i 3 hi (by decide)) (.cons (N.kit i 4 hi (by decide)) .nil))))) ⟨_, rfl, ?_⟩
      refine ite2 (fun g => ?_) (fun g => ?_)
      · refine ⟨_, rfl, N.get e2 hi ?_ (k _ s2)⟩
        simp only [List.any_cons, List.any_nil, id_eq, Bool.or_eq_true, decide_eq_true_eq, Bool.or_false] at g
        rcases g with g | g | g | g <;> (subst g; rfl)
      · refine ⟨_, rfl, N.own (k := 6) e2 hi (by decide) ⟨_, rfl, ?_⟩⟩
        refine ite2 (fun q => ?_) (fun q => ?_)
        · refine ⟨_, rfl, N.get e2 hi ?_ (k _ s2)⟩
          have q' := of_decide_eq_true q
          subst q'
          rfl
        · refine ⟨_, rfl, N.own (k := 7) e2 hi (by decide) ⟨_, rfl, ?_⟩⟩
          refine ite2 (fun z => ?_) (fun z => ?_)
          · refine ⟨_, rfl, N.get e2 hi ?_ (k _ s2)⟩
            have z' := of_decide_eq_true z
            subst z'
            rfl
          · refine ⟨_, rfl, N.get e2 hi ?_ (k _ s2)⟩
            simp only [List.any_cons, List.any_nil, id_eq, Bool.or_eq_true, decide_eq_true_eq, Bool.or_false] at h g q z
            have e8 : i = 8 := by omega
            subst e8
            rfl
end
end G

set_option Elab.async false
set_option maxRecDepth 100000
namespace G
open PySem PySem.HandSPX L2 PySem.Spec PyProof.Rows
abbrev sLaw : Stmt := top 17
theorem bt_min : bootBuiltins "min" = some (.builtin "min") := by decide +kernel
theorem bt_repr : bootBuiltins "repr" = some (.builtin "repr") := by decide +kernel
theorem bt_VE : bootBuiltins "ValueError" = some (.type "ValueError") := by decide +kernel
theorem bt_LE : bootBuiltins "LookupError" = some (.type "LookupError") := by decide +kernel
theorem bt_OE : bootBuiltins "OverflowError" = some (.type "OverflowError") := by decide +kernel
theorem bt_KE : bootBuiltins "KeyError" = some (.type "KeyError") := by decide +kernel
theorem bt_IE : bootBuiltins "IndexError" = some (.type "IndexError") := by decide +kernel
structure TxL (K : PySem.W.Frag) (mg : Str → Option Value) (cg fB fV fK fF : Addr) : Prop where
  begun : mg "_law_begun" = some (.ref fB)
  kb : PySem.W.keepIn K (.ref fB) = true
  value : mg "_law_value" = some (.ref fV)
  kv : PySem.W.keepIn K (.ref fV) = true
  kinds : mg "_law_kinds" = some (.ref fK)
  kk : PySem.W.keepIn K (.ref fK) = true
  field : mg "_law_field" = some (.ref fF)
  kf : PySem.W.keepIn K (.ref fF) = true
  range : mg "range" = none
  min : mg "min" = none
  len : mg "len" = none
  repr : mg "repr" = none
  enum : mg "enumerate" = none
  ve : mg "ValueError" = none
  le : mg "LookupError" = none
  oe : mg "OverflowError" = none
  ke : mg "KeyError" = none
  ie : mg "IndexError" = none
  xG : PySem.W.excIn K cg [.type "ValueError", .type "Exception", .type "BaseException", .type "object"] "ValueError.__new__" = true
  kG : PySem.W.keepIn K (.ref cg) = true
  tG : OexG K cg "ValueError" "ValueError.__new__" "ValueError.__init__" [.type "ValueError", .type "Exception", .type "BaseException", .type "object"]
  iG : PySem.W.kitOne K (.ref cg) (.type "ValueError") = some true
/-- what stands in a turn, behind the makings -/
structure Sta (K : PySem.W.Frag) (cs : Nat → Addr) (G : Hp) (m : Addr) (T : Int) (y : V) (d : PyData) (ps pf : Addr) (as bs : List Addr) (H : Hp) : Prop where
  la : as.length = 9
  lb : bs.length = 9
  ea : ∀ i x, as[i]? = some x → ExAt H x (cs i) (fld i) y
  eb : ∀ i x, bs[i]? = some x → ExAt H x (cs i) (fld i) y
  ls : SqL K H ps (as.map V.ref)
  lf : SqL K H pf (bs.map V.ref)
  dq : Dq K H y d
  ft : Fit d
  ms : Mst G H m T
theorem Sta.same {K : PySem.W.Frag} {cs : Nat → Addr} {G : Hp} {m : Addr} {T : Int} {y : V} {d : PyData} {ps pf : Addr} {as bs : List Addr} {H H' : Hp}
    (S : Sta K cs G m T y d ps pf as bs H) (e : Same H H') : Sta K cs G m T y d ps pf as bs H' :=
  ⟨S.la, S.lb, fun i x h => (S.ea i x h).same e, fun i x h => (S.eb i x h).same e, e.seq S.ls, e.seq S.lf, S.dq.same e, S.ft, S.ms.same e⟩
theorem ExAt.write {H : Hp} {a C p : Addr} {f : Str} {y : V} {xs : List V} {o : HO} (h : ExAt H a C f y) (hp : H p = some (.lst xs)) : ExAt (upd H p o) a C f y := by
  obtain ⟨d, h1, h2⟩ := h
  refine ⟨d, ?_, ?_⟩
  · rw [upd_ne (ne_of h1 hp fun z => nomatch (show HO.ext _ = HO.lst xs from z))]
    exact h1
  · rw [upd_ne (ne_of h2 hp fun z => nomatch (show HO.ext _ = HO.lst xs from z))]
    exact h2
def spLaw (K : PySem.W.Frag) : Sp := fun vs H Q _ => ∃ (a : Addr) (ns : List Int), vs = [.ref a] ∧ SqL K H a (ns.map V.int) ∧ ns.length ≤ 63 ∧ ∀ H', Q (.bl true) H'
def bools (i n : Nat) : List Bool := (List.range n).map fun k => decide (k = i)
theorem kinds_bools (i : Nat) : kindsV i = (bools i 9).map V.bl := by
  unfold kindsV bools
  rw [List.map_map]
  rfl
theorem bools_succ (i n : Nat) : (bools i (n + 1)).map V.bl = (bools i n).map V.bl ++ [V.bl (decide (n = i))] := by
  unfold bools
  rw [List.range_succ, List.map_append, List.map_append]
  rfl
theorem dec_int (k i : Nat) : decide (V.int (0 + (k : Int)) = V.int (i : Int)) = decide (k = i) := by
  by_cases h : k = i
  · subst h
    rw [decide_eq_true rfl, decide_eq_true (by rw [Int.zero_add])]
  · rw [decide_eq_false h, decide_eq_false fun e => h ?_]
    have e' := V.int.inj e
    omega
theorem dec_lt (i n : Nat) : decide ((i : Int) < (n : Int)) = decide (i < n) := by
  by_cases h : i < n
  · rw [decide_eq_true h, decide_eq_true (by omega)]
  · rw [decide_eq_false h, decide_eq_false (by omega)]
theorem dec_eq (i n : Nat) : decide (V.int (i : Int) = V.int (n : Int)) = decide (i = n) := by
  by_cases h : i = n
  · subst h
    rw [decide_eq_true rfl, decide_eq_true rfl]
  · rw [decide_eq_false h, decide_eq_false fun e => h ?_]
    have e' := V.int.inj e
    omega
section
variable {P : Program} {w : World} {K : PySem.W.Frag} {mg : Str → Option Value} {base : Heap} {f cg fB fV fK fF : Addr} {fd fdB fdV fdK fdF : FuncData} {cs : Nat → Addr}
theorem scL : FnScope ["script", "m", "turn", "q", "some", "far", "at", "one", "told", "k"] ["script"] (defScope sLaw) := ⟨rfl, rfl, rfl, by decide +kernel, rfl, by decide +kernel, by decide +kernel⟩
theorem ok_law (F : Fun K "law" "law" sLaw f fd) (T : TxL K mg cg fB fV fK fF) (N : Nine K mg cs cg)
    (GB : FnOk P w K mg base CX0 1 fB fdB ["script"] (spBegun K)) (bB : Binds K fdB ["script"] [])
    (GV : FnOk P w K mg base CX0 2 fV fdV ["m"] (spValue K)) (bV : Binds K fdV ["m"] [])
    (GK : FnOk P w K mg base CX0 1 fK fdK ["one"] (spKinds cs)) (bK : Binds K fdK ["one"] [])
    (GF : FnOk P w K mg base CX0 1 fF fdF ["one"] (spField cs)) (bF : Binds K fdF ["one"] [])
    (I : ∀ i, i < 9 → Ini P w K mg base (cs i) (fld i)) : FnG P w K mg base CX0 3 f fd ["script"] (spLaw K) := by
  refine okG F scL (fun vs H Q E h => ?_) (fun cdv A fr s H vs Q E hg hr h => ?_)
  · obtain ⟨a, ns, rfl, _⟩ := h
    rfl
  · obtain ⟨a, ns, rfl, hS, hlen, k⟩ := h
    have hr1 : Room 1 _ := hr.mono (by decide)
    have h64 := hu64 hr

    have I0 := I 0 (by decide)
    have I1 := I 1 (by decide)
    have I2 := I 2 (by decide)
    have I3 := I 3 (by decide)
    have I4 := I 4 (by decide)
    have I5 := I 5 (by decide)
    have I6 := I 6 (by decide)
    have I7 := I 7 (by decide)
    have I8 := I 8 (by decide)
    refine ⟨_, pss_cons (ps_set (i := 1) scL.nd rfl (Or.inl rfl) (pe_call GB hr1 (by rfl) T.begun T.kb bB .nil pass0 (pa_cons (pv 0) pa_nil)))
      (pss_cons (ps_for PassesOwn.never rfl (pi_range1 (by rfl) T.range (pa_cons (pe_op op_add pe_int (pe_callB (call_min2 rfl) (by rfl) T.min bt_min (pa_cons (pe_callB call_len_seq (by rfl) T.len PySem.boot_len (pa_cons (pv 0) pa_nil)) (pa_cons pe_int pa_nil)))) pa_nil)) (pg_name (i := 2) scL.nd rfl (Or.inl rfl))
        (pss_cons (ps_set (i := 3) scL.nd rfl (Or.inl rfl) (pe_call GV hr (by rfl) T.value T.kv bV .nil pass0 (pa_cons (pv 1) pa_nil)))
        (pss_cons (ps_set (i := 4) scL.nd rfl (Or.inl rfl) (pe_lst (pa_cons (pe_new1 I0 hr N.g0 (pv 3)) (pa_cons (pe_new1 I1 hr N.g1 (pv 3)) (pa_cons (pe_new1 I2 hr N.g2 (pv 3)) (pa_cons (pe_new1 I3 hr N.g3 (pv 3)) (pa_cons (pe_new1 I4 hr N.g4 (pv 3)) (pa_cons (pe_new1 I5 hr N.g5 (pv 3)) (pa_cons (pe_new1 I6 hr N.g6 (pv 3)) (pa_cons (pe_new1 I7 hr N.g7 (pv 3)) pa_nil))))))))))
        (pss_cons (ps_expr (pe_bm PySem.F.plainAttrs_list PySem.F.slot_list_append PySem.F.type_list_append mt_append (pv 4) (pa_cons (pe_new1 I8 hr N.g8 (pv 3)) pa_nil)))
        (pss_cons (ps_set (i := 5) scL.nd rfl (Or.inl rfl) (pe_lst (pa_cons (pe_newK I0 hr N.g0 (pv 3)) (pa_cons (pe_newK I1 hr N.g1 (pv 3)) (pa_cons (pe_newK I2 hr N.g2 (pv 3)) (pa_cons (pe_newK I3 hr N.g3 (pv 3)) (pa_cons (pe_newK I4 hr N.g4 (pv 3)) pa_nil)))))))
        (C8.pss_cut (ps_set (i := 5) scL.nd rfl (Or.inl rfl) (pe_op op_cat (pv 5) (pe_lst (pa_cons (pe_newK I5 hr N.g5 (pv 3)) (pa_cons (pe_newK I6 hr N.g6 (pv 3)) (pa_cons (pe_newK I7 hr N.g7 (pv 3)) (pa_cons (pe_newK I8 hr N.g8 (pv 3)) pa_nil)))))))
        (pss_one (ps_for PassesOwn.never rfl (pi_enum (by rfl) T.enum (pa_cons (pv 4) pa_nil)) (pg_tup rfl (pgs_cons (pg_name (i := 6) scL.nd rfl (Or.inr rfl)) (pgs_cons (pg_name (i := 7) scL.nd rfl (Or.inl rfl)) pgs_nil)))
          (pss_cons (ps_if (pw_or (pt_cmpR op_ne (pe_callB (call_repr hg h64) (by rfl) T.repr bt_repr (pa_cons (pe_call GF hr1 (by rfl) T.field T.kf bF .nil pass0 (pa_cons (pv 7) pa_nil)) pa_nil)) (pe_callB (call_repr hg h64) (by rfl) T.repr bt_repr (pa_cons (pv 3) pa_nil)) (nomark _)) (pw_or1 (pt_cmpR op_ne (pe_callB (call_repr hg h64) (by rfl) T.repr bt_repr (pa_cons (pe_call GF hr1 (by rfl) T.field T.kf bF .nil pass0 (pa_cons (pe_ix ix_list (pv 5) (pv 6) (fun _ _ => rfl)) pa_nil)) pa_nil)) (pe_callB (call_repr hg h64) (by rfl) T.repr bt_repr (pa_cons (pv 3) pa_nil)) (nomark _)))).pt (pss_one (ps_ret pe_bl)) pss_nil)
          (pss_cons (ps_if (pw_or (pt_cmpR (op_neB h64) (pe_call GK hr1 (by rfl) T.kinds T.kk bK .nil pass0 (pa_cons (pv 7) pa_nil)) (pe_lc (own := [("k", 9)]) (g := gName 9) (tt := tYes) (by rfl) scL.nd (pi_range1 (by rfl) T.range (pa_cons pe_int pa_nil)) (blkOk_by (own := [("k", 9)]) (N := ["script", "m", "turn", "q", "some", "far", "at", "one", "told", "k"]) (sc := defScope sLaw) (by decide +kernel)) (fun _ _ _ _ _ => pg_name (i := 9) scL.nd rfl (Or.inl rfl)) (fun _ _ _ _ _ => pts_nil) (fun _ _ _ _ _ => pe_cmpR op_eq (pv 9) (pv 6) (nomark _))) (nomark _)) (pw_or1 (pt_cmpR (op_neB h64) (pe_call GK hr1 (by rfl) T.kinds T.kk bK .nil pass0 (pa_cons (pe_ix ix_list (pv 5) (pv 6) (fun _ _ => rfl)) pa_nil)) (pe_call GK hr1 (by rfl) T.kinds T.kk bK .nil pass0 (pa_cons (pv 7) pa_nil)) (nomark _)))).pt (pss_one (ps_ret pe_bl)) pss_nil)
          (pss_cons (ps_set (i := 8) scL.nd rfl (Or.inl rfl) (pe_lst (pa_cons (pe_callB call_isA (by rfl) N.isi boot_isi (pa_cons (pv 7) (pa_cons (peC N.gG) pa_nil))) (pa_cons (pe_callB call_isA (by rfl) N.isi boot_isi (pa_cons (pv 7) (pa_cons (pe_bltn (v := .ty "ValueError") (by rfl) T.ve bt_VE rfl) pa_nil))) (pa_cons (pe_callB call_isA (by rfl) N.isi boot_isi (pa_cons (pv 7) (pa_cons (pe_bltn (v := .ty "LookupError") (by rfl) T.le bt_LE rfl) pa_nil))) pa_nil)))))
          (pss_cons (ps_set (i := 8) scL.nd rfl (Or.inl rfl) (pe_op op_cat (pv 8) (pe_lst (pa_cons (pe_callB call_isA (by rfl) N.isi boot_isi (pa_cons (pv 7) (pa_cons (pe_bltn (v := .ty "OverflowError") (by rfl) T.oe bt_OE rfl) pa_nil)))
              (pa_cons (pe_callB call_isAT (by rfl) N.isi boot_isi (pa_cons (pv 7) (pa_cons (pe_tup (pa_cons (pe_bltn (v := .ty "KeyError") (by rfl) T.ke bt_KE rfl) (pa_cons (pe_bltn (v := .ty "IndexError") (by rfl) T.ie bt_IE rfl) pa_nil))) pa_nil))) pa_nil)))))
          (pss_one (ps_if (pt_cmpR (op_neB h64) (pv 8) (pe_lst (pa_cons (pe_cmpR op_lt (pv 6) pe_int (nomark _)) (pa_cons (pe_cmpR op_lt (pv 6) pe_int (nomark _)) (pa_cons (pe_cmpR op_eq (pv 6) pe_int (nomark _)) (pa_cons (pe_cmpR op_eq (pv 6) pe_int (nomark _)) (pa_cons pe_bl pa_nil)))))) (nomark _)) (pss_one (ps_ret pe_bl)) pss_nil))))))))))))))
      (pss_one (ps_ret (pe_callB (call_isX T.tG) (by rfl) N.isi boot_isi (pa_cons (pe_new0 T.tG.fb T.xG N.gG T.kG rfl) (pa_cons (pe_bltn (v := .ty "ValueError") (by rfl) T.ve bt_VE rfl) pa_nil)))))), ?_⟩
    refine ⟨_, rfl, a, ns, rfl, hS, hlen, fun m H1 M => ?_⟩
    have hj : ∀ z : Int, z = 2 + (if (6 : Int) < ((ns.map V.int).length : Int) then 6 else ((ns.map V.int).length : Int)) → 0 ≤ z ∧ z ≤ 8 := fun z e => by
      split at e <;> omega
    refine ⟨_, rfl, a, _, rfl, .inl (M.sm.seq hS), _, _, rfl, _, _, rfl, rfl, _, rfl, ?_, ?_, ?_⟩
    · have := hj _ rfl
      have p62 : (0 : Int) < 2 ^ 62 := by decide
      omega
    · have := hj _ rfl
      have p62 : (8 : Int) < 2 ^ 62 := by decide
      omega
    refine for_range (fun i σ H2 => Mst H H2 m (i : Int) ∧ ∃ o2 o3 o4 o5 o6 o7 o8 : Option V, σ = [some (.ref a), some (.ref m), o2, o3, o4, o5, o6, o7, o8, none]) ⟨M, none, none, none, none, none, none, none, rfl⟩ ?_ ?_
    · rintro i σ H2 hi ⟨M, o2, o3, o4, o5, o6, o7, o8, rfl⟩
      have i8 : i < 8 := by
        have := hj _ rfl
        omega
      refine ⟨_, rfl, m, H, i, rfl, M, by omega, fun y d K0 dq ft M0 => ?_⟩
      refine ⟨y, rfl, fun a0 KA0 sa0 na0 xa0 => ?_⟩
      refine ⟨y, rfl, fun a1 KA1 sa1 na1 xa1 => ?_⟩
      refine ⟨y, rfl, fun a2 KA2 sa2 na2 xa2 => ?_⟩
      refine ⟨y, rfl, fun a3 KA3 sa3 na3 xa3 => ?_⟩
      refine ⟨y, rfl, fun a4 KA4 sa4 na4 xa4 => ?_⟩
      refine ⟨y, rfl, fun a5 KA5 sa5 na5 xa5 => ?_⟩
      refine ⟨y, rfl, fun a6 KA6 sa6 na6 xa6 => ?_⟩
      refine ⟨y, rfl, fun a7 KA7 sa7 na7 xa7 => ?_⟩
      refine ⟨(by show 8 ≤ sizeLine; decide), fun p1 h1 => ?_⟩
      refine ⟨_, rfl, .inl ⟨rfl, _, SqL.of upd_same⟩, y, rfl, fun a8 KA8 sa8 na8 xa8 => ?_⟩
      have l8 := sa8 _ _ (upd_same (H := KA7) (a := p1) (o := .lst [.ref a0, .ref a1, .ref a2, .ref a3, .ref a4, .ref a5, .ref a6, .ref a7]))
      refine ⟨p1, _, _, rfl, rfl, l8, (by show 8 < sizeLine; decide), ?_⟩
      have up : Same KA7 (upd KA8 p1 (.lst ([.ref a0, .ref a1, .ref a2, .ref a3, .ref a4, .ref a5, .ref a6, .ref a7] ++ [V.ref a8]))) := fun b o z => by
        rw [upd_ne (ne_of_none z h1)]
        exact sa8 _ _ (same_new h1 _ _ z)
      have y8 := xa8.write (o := .lst ([.ref a0, .ref a1, .ref a2, .ref a3, .ref a4, .ref a5, .ref a6, .ref a7] ++ [V.ref a8])) l8
      generalize hL : upd KA8 p1 (.lst ([.ref a0, .ref a1, .ref a2, .ref a3, .ref a4, .ref a5, .ref a6, .ref a7] ++ [V.ref a8])) = L0 at up y8 ⊢
      have l9 : L0 p1 = some (.lst (([a0, a1, a2, a3, a4, a5, a6, a7, a8] : List Addr).map V.ref)) := by
        rw [← hL, upd_same]
        rfl
      refine ⟨y, rfl, fun b0 KB0 sb0 nb0 xb0 => ?_⟩
      refine ⟨y, rfl, fun b1 KB1 sb1 nb1 xb1 => ?_⟩
      refine ⟨y, rfl, fun b2 KB2 sb2 nb2 xb2 => ?_⟩
      refine ⟨y, rfl, fun b3 KB3 sb3 nb3 xb3 => ?_⟩
      refine ⟨y, rfl, fun b4 KB4 sb4 nb4 xb4 => ?_⟩
      refine ⟨(by show 5 ≤ sizeLine; decide), fun p2 h2 => ?_⟩
      have sp2 := same_new (o := .lst [.ref b0, .ref b1, .ref b2, .ref b3, .ref b4]) h2
      refine ⟨fun σ' H' => ∃ (o2 o6 o7 o8 : Option V) (ps pf : Addr) (as bs : List Addr), σ' = [some (.ref a), some (.ref m), o2, some y, some (.ref ps), some (.ref pf), o6, o7, o8, none] ∧ Sta K cs H m ((i : Int) + 1) y d ps pf as bs H', ?_, ?_⟩
      · refine ⟨_, rfl, ?_⟩
        refine ⟨y, rfl, fun b5 KB5 sb5 nb5 xb5 => ?_⟩
        refine ⟨y, rfl, fun b6 KB6 sb6 nb6 xb6 => ?_⟩
        refine ⟨y, rfl, fun b7 KB7 sb7 nb7 xb7 => ?_⟩
        refine ⟨y, rfl, fun b8 KB8 sb8 nb8 xb8 => ?_⟩
        refine ⟨(by show 4 ≤ sizeLine; decide), fun p3 h3 => ?_⟩
        have sp3 := same_new (o := .lst [.ref b5, .ref b6, .ref b7, .ref b8]) h3
        have tB := sb5.trans (sb6.trans (sb7.trans (sb8.trans sp3)))
        refine ⟨p2, p3, _, _, rfl, rfl, tB _ _ upd_same, upd_same, (by show 9 ≤ sizeLine; decide), fun p4 h4 => ?_⟩
        have sp4 := same_new (o := .lst ([.ref b0, .ref b1, .ref b2, .ref b3, .ref b4] ++ [.ref b5, .ref b6, .ref b7, .ref b8])) h4
        have e9 := sp3.trans sp4
        have f8 := sb8.trans e9
        have xB8 := xb8.same e9
        have f7 := sb7.trans f8
        have xB7 := xb7.same f8
        have f6 := sb6.trans f7
        have xB6 := xb6.same f7
        have f5 := sb5.trans f6
        have xB5 := xb5.same f6
        have f4a := sp2.trans f5
        have xB4 := xb4.same f4a
        have f4 := sb4.trans f4a
        have xB3 := xb3.same f4
        have f3 := sb3.trans f4
        have xB2 := xb2.same f3
        have f2 := sb2.trans f3
        have xB1 := xb1.same f2
        have f1 := sb1.trans f2
        have xB0 := xb0.same f1
        have f0 := sb0.trans f1
        have xA8 := y8.same f0
        have u7 := up.trans f0
        have xA7 := xa7.same u7
        have u6 := sa7.trans u7
        have xA6 := xa6.same u6
        have u5 := sa6.trans u6
        have xA5 := xa5.same u5
        have u4 := sa5.trans u5
        have xA4 := xa4.same u4
        have u3 := sa4.trans u4
        have xA3 := xa3.same u3
        have u2 := sa3.trans u3
        have xA2 := xa2.same u2
        have u1 := sa2.trans u2
        have xA1 := xa1.same u1
        have u0 := sa1.trans u1
        have xA0 := xa0.same u0
        have uz := sa0.trans u0
        refine ⟨_, _, _, _, p1, p4, [a0, a1, a2, a3, a4, a5, a6, a7, a8], [b0, b1, b2, b3, b4, b5, b6, b7, b8], rfl, rfl, rfl, ?_, ?_, SqL.of (f0 _ _ l9), SqL.of upd_same, dq.same uz, ft, M0.same uz⟩
        · intro n x hx
          match n, hx with
          | 0, rfl => exact xA0
          | 1, rfl => exact xA1
          | 2, rfl => exact xA2
          | 3, rfl => exact xA3
          | 4, rfl => exact xA4
          | 5, rfl => exact xA5
          | 6, rfl => exact xA6
          | 7, rfl => exact xA7
          | 8, rfl => exact xA8
          | n + 9, hx => simp at hx
        · intro n x hx
          match n, hx with
          | 0, rfl => exact xB0
          | 1, rfl => exact xB1
          | 2, rfl => exact xB2
          | 3, rfl => exact xB3
          | 4, rfl => exact xB4
          | 5, rfl => exact xB5
          | 6, rfl => exact xB6
          | 7, rfl => exact xB7
          | 8, rfl => exact xB8
          | n + 9, hx => simp at hx
      · rintro σ2 K9 ⟨o2, o6, o7, o8, ps, pf, as, bs, rfl, S⟩
        refine ⟨_, rfl, ps, _, rfl, S.ls, for_enum (xs := as.map V.ref) (fun _ σ' H' => ∃ o6 o7 o8 : Option V, σ' = [some (.ref a), some (.ref m), o2, some y, some (.ref ps), some (.ref pf), o6, o7, o8, none] ∧ Sta K cs H m ((i : Int) + 1) y d ps pf as bs H')
          ⟨o6, o7, o8, rfl, S⟩ (fun _ _ _ ⟨_, _, _, _, S⟩ => S.ls) ?_ ?_⟩
        · rintro j x σ' H' tp hx ⟨o6, o7, o8, rfl, S⟩ ht
          have hlt := (List.getElem?_eq_some_iff.mp hx).1
          rw [List.length_map, S.la] at hlt
          have h9 : j < 9 := hlt
          obtain ⟨ax, hax, rfl⟩ : ∃ ax, as[j]? = some ax ∧ x = V.ref ax := by
            rw [List.getElem?_map] at hx
            cases e : as[j]? with
            | none =>
              rw [e] at hx
              cases hx
            | some ax =>
              rw [e] at hx
              exact ⟨ax, rfl, (Option.some.inj hx).symm⟩
          obtain ⟨bx, hbx⟩ : ∃ bx, bs[j]? = some bx := ⟨bs[j]'(by rw [S.lb]; exact h9), by simp [S.lb, h9]⟩
          have hat : atI (bs.map V.ref) (j : Int) = some (.ref bx) := atI_nat (by rw [List.getElem?_map, hbx]; rfl)
          refine ⟨tp, _, rfl, SqT.of upd_same, rfl, _, _, rfl, _, _, rfl, rfl, ?_⟩
          have S1 := S.same (same_new (o := .tup [.int (j : Nat), .ref ax]) ht)
          -- the fields
          refine ⟨_, rfl, ax, j, y, rfl, h9, S1.ea j ax hax, fun H2 s2 => ?_⟩
          have S2 := S1.same s2
          refine ⟨y, d, rfl, S2.dq, ft.sh, ft.len, ft.dep, _, rfl, y, d, rfl, S2.dq, ft.sh, ft.len, ft.dep, rfl, _, rfl, iteNS rfl ?_⟩
          refine ⟨_, rfl, _, rfl, pf, _, (j : Int), .ref bx, rfl, rfl, S2.lf, hat, bx, j, y, rfl, h9, S2.eb j bx hbx, fun H3 s3 => ?_⟩
          have S3 := S2.same s3
          refine ⟨y, d, rfl, S3.dq, ft.sh, ft.len, ft.dep, _, rfl, y, d, rfl, S3.dq, ft.sh, ft.len, ft.dep, rfl, _, rfl, iteNS rfl ?_⟩
          -- the kinds
          refine ⟨_, rfl, ax, j, y, rfl, h9, S3.ea j ax hax, fun q1 H4 s4 e4 => ?_⟩
          have S4 := S3.same s4
          rw [kinds_bools] at e4
          refine ⟨_, rfl, by decide, by decide, fun D hD => lc_range (lo := 0) (n := 9) (fun n H5 => H5 = upd H4 D (.lst ((bools j n).map V.bl))) rfl ?_ ?_⟩
          · rintro n H5 hn rfl
            refine ⟨rfl, ?_⟩
            simp only [tYes, if_true]
            refine ⟨_, rfl, _, rfl, rfl, _, upd_same, ?_, ?_⟩
            · rw [List.length_map]
              unfold bools
              rw [List.length_map, List.length_range]
              exact Nat.lt_of_lt_of_le hn (by decide)
            · rw [upd_upd, bools_succ, dec_int]
          · rintro H5 rfl
            have S5 := S4.same (same_new (o := .lst ((bools j 9).map V.bl)) hD)
            refine ⟨q1, D, bools j 9, rfl, rfl, SqL.of (same_new hD _ _ e4), SqL.of upd_same, _, rfl, iteF ?_⟩
            refine ⟨_, rfl, _, rfl, pf, _, (j : Int), .ref bx, rfl, rfl, S5.lf, hat, bx, j, y, rfl, h9, S5.eb j bx hbx, fun q2 H6 s6 e6 => ?_⟩
            have S6 := S5.same s6
            refine ⟨_, rfl, ax, j, y, rfl, h9, S6.ea j ax hax, fun q3 H7 s7 e7 => ?_⟩
            have S7 := S6.same s7
            rw [kinds_bools] at e6 e7
            refine ⟨q2, q3, bools j 9, rfl, rfl, SqL.of (s7 _ _ e6), SqL.of e7, _, rfl, iteF ?_⟩
            -- the bases
            refine ⟨_, rfl, N.is (S7.ea j ax hax) h9 (.own _) (N.kG j h9) ⟨_, rfl, N.is (S7.ea j ax hax) h9 (.ty _) (N.kV j h9) ⟨_, rfl, N.is (S7.ea j ax hax) h9 (.ty _) (N.kL j h9) ⟨(by show 3 ≤ sizeLine; decide), fun r1 g1 => ?_⟩⟩⟩⟩
            have t1 := same_new (o := .lst [.bl (decide (j < 7)), .bl (decide (j < 7)), .bl (decide (j = 7))]) g1
            have S8 := S7.same t1
            refine ⟨_, rfl, _, rfl, N.is (S8.ea j ax hax) h9 (.ty _) (N.kO j h9) ⟨_, rfl, (by show 2 ≤ sizeLine; decide), fun r2 g2 => ?_⟩⟩
            have t2 := same_new (o := .tup [.ty "KeyError", .ty "IndexError"]) g2
            have S9 := S8.same t2
            refine N.any (S9.ea j ax hax) h9 upd_same (.cons (.ty _) (.cons (.ty _) .nil)) (any_of (.cons (N.kK j h9) (.cons (N.kI j h9) .nil))) ⟨(by show 2 ≤ sizeLine; decide), fun r3 g3 => ?_⟩
            have t3 := same_new (o := .lst [.bl (decide (j = 8)), .bl ([false, false].any id)]) g3
            refine ⟨r1, r3, _, _, rfl, rfl, t3 _ _ (t2 _ _ upd_same), upd_same, (by show 5 ≤ sizeLine; decide), fun r4 g4 => ?_⟩
            have t4 := same_new (o := .lst ([.bl (decide (j < 7)), .bl (decide (j < 7)), .bl (decide (j = 7))] ++ [.bl (decide (j = 8)), .bl ([false, false].any id)])) g4
            have Sx := (S9.same t3).same t4
            refine ⟨_, rfl, _, rfl, _, _, rfl, rfl, _, rfl, _, _, rfl, rfl, _, rfl, rfl, _, rfl, rfl, (by show 5 ≤ sizeLine; decide), fun r5 g5 => ?_⟩
            refine ⟨r4, r5, [decide (j < 7), decide (j < 7), decide (j = 7), decide (j = 8), false], rfl, rfl, SqL.of (same_new g5 _ _ upd_same), SqL.of ?_, _, rfl, iteF ?_⟩
            · rw [upd_same]
              have c1 : decide ((j : Int) < 7) = decide (j < 7) := dec_lt j 7
              have c2 : decide (V.int (j : Int) = V.int 7) = decide (j = 7) := dec_eq j 7
              have c3 : decide (V.int (j : Int) = V.int 8) = decide (j = 8) := dec_eq j 8
              simp only [c1, c2, c3]
              rfl
            · exact ⟨_, _, _, rfl, Sx.same (same_new g5)⟩
        · rintro σ' H' ⟨o6, o7, o8, rfl, S⟩
          exact ⟨S.ms, _, _, _, _, _, _, _, rfl⟩
    · rintro σ2 K9 ⟨M, o2, o3, o4, o5, o6, o7, o8, rfl⟩
      intro x hx
      exact ⟨x, .ty "ValueError", .type "ValueError", true, rfl, upd_same, .ty _, T.iG, k _⟩
end
end G

set_option Elab.async false
set_option maxRecDepth 100000
namespace G
open PySem PySem.HandSPX L2 PySem.Spec PyProof.Rows
/-- an own exception class object at C, above it bm -/
def CDat (K : PySem.W.Frag) (C : Addr) (bm : List Value) (newId : String) : Prop := ∃ (nm q : Str) (N : Addr) (bs : List Value) (sn : List Str) (sub : List Value) (ab : Bool) (col : Option Bool) (dd : Option Addr) (k0 k1 k2 k3 k5 : Option Value),
  K.lookup C = some (excClassObj nm q C N bs bm true sn sub ab col dd k0 k1 k2 k3 k5 newId)
section
variable {K : PySem.W.Frag} {C D : Addr} {bm bn : List Value} {newId newJ : String}
theorem CDat.sub {u : Value} (c : CDat K C bm newId) : PySem.W.subIn K (.ref C) u = some ((Value.ref C :: bm).contains u) := by
  obtain ⟨nm, q, N, bs, sn, sub, ab, col, dd, k0, k1, k2, k3, k5, h⟩ := c
  show PySem.W.mroIn K C u = _
  unfold PySem.W.mroIn
  rw [cls_of h]
  rfl
theorem CDat.ty (c : CDat K C bm newId) : PySem.W.typeIn K (.ref C) = some (.type "type") := by
  obtain ⟨nm, q, N, bs, sn, sub, ab, col, dd, k0, k1, k2, k3, k5, h⟩ := c
  show (K.lookup C).map (·.cls) = _
  rw [h] <;> rfl
theorem CDat.is (c : CDat K C bm newId) : (PySem.W.clsIn K C).isSome = true := by
  obtain ⟨nm, q, N, bs, sn, sub, ab, col, dd, k0, k1, k2, k3, k5, h⟩ := c
  rw [cls_of h]
  rfl
theorem kit_self : PySem.W.kitOne K (.ref C) (.ref C) = some true := by
  unfold PySem.W.kitOne
  rw [if_pos (beq_self_eq_true _)]
theorem ref_ne {a b : Addr} (h : a ≠ b) : (Value.ref a == Value.ref b) = false := by
  rw [beq_eq_false_iff_ne]
  exact fun e => h (Value.ref.inj e)
theorem kit_ref {b : Bool} (c : CDat K C bm newId) (d : CDat K D bn newJ) (ne : C ≠ D) (h : bm.contains (.ref D) = b) : PySem.W.kitOne K (.ref C) (.ref D) = some b := by
  unfold PySem.W.kitOne
  rw [ref_ne ne, if_neg Bool.false_ne_true]
  show (if ((PySem.W.clsIn K D).isSome && PySem.W.typeIn K (.ref D) == some (.type "type")) = true then PySem.W.subIn K (.ref C) (.ref D) else none) = _
  have e2 : (some (Value.type "type") == some (Value.type "type")) = true := by decide +kernel
  have e3 : (Value.ref D == Value.ref C) = false := ref_ne ne.symm
  rw [d.is, d.ty, e2, c.sub, List.contains_cons, e3, h]
  rfl
theorem kit_type {T : String} {b : Bool} (c : CDat K C bm newId) (m : PySem.W.kitMeta T = true) (h : bm.contains (.type T) = b) : PySem.W.kitOne K (.ref C) (.type T) = some b := by
  unfold PySem.W.kitOne
  have e1 : (Value.ref C == Value.type T) = false := by
    rw [beq_eq_false_iff_ne]
    exact fun e => nomatch e
  have e3 : (Value.type T == Value.ref C) = false := by
    rw [beq_eq_false_iff_ne]
    exact fun e => nomatch e
  rw [e1, if_neg Bool.false_ne_true]
  show (if PySem.W.kitMeta T = true then PySem.W.subIn K (.ref C) (.type T) else none) = _
  rw [if_pos m, c.sub, List.contains_cons, e3, h]
  rfl
/-- the rest of what is known of such a class -/
structure CMore (K : PySem.W.Frag) (C : Addr) : Prop where
  sa : PySem.W.findIn K (.ref C) "__setattr__" = some (some (.builtin "object.__setattr__"))
  ga : PySem.W.findIn K (.ref C) "__getattribute__" = some (some (.builtin "BaseException.__getattribute__"))
  gg : PySem.W.findIn K (.ref C) "__getattr__" = some none
  kp : PySem.W.keepIn K (.ref C) = true
  hd : PySem.W.hasDictIn K C = true
  cc : PySem.W.findIn K (.ref C) "__class__" = some (some (.builtin "object.__class__"))
theorem oex_mk {B newId initId : String} {bmB : List Value} (c : CDat K C bm newId) (m : CMore K C) (fb : ExcBaseFacts B newId initId bmB)
    (same : ∀ Y : String, bm.contains (.type Y) = bmB.contains (.type Y)) (pass : ∀ self, refuseLoop self "__setattr__" (.ref C :: bm) = pure ())
    (ob : bmB.contains (.type "object") = true)
    (cg : PySem.W.specialIn K (.builtin "object.__class__") "__get__" = some (some (.builtin "getset_descriptor.__get__")))
    (ct : PySem.W.takesIn K (.builtin "object.__class__") = some true) : OexG K C B newId initId bmB := by
  have be : ∀ T : String, bmB.contains (.type T) = true → PySem.W.subIn K (.ref C) (.type T) = some true := fun T h => by
    rw [c.sub, List.contains_cons, same, h, Bool.or_true]
  have cm := be "object" ob
  refine ⟨?_, fb, ob, m.sa, m.ga, m.gg, be _ fb.hasBase, m.kp, m.hd, m.cc, cg, ct, cm⟩
  obtain ⟨nm, q, N, bs, sn, sub, ab, col, dd, k0, k1, k2, k3, k5, h⟩ := c
  exact ⟨nm, q, N, bs, bm, sn, sub, ab, col, dd, k0, k1, k2, k3, k5, h, same, pass⟩
theorem pass_up {self : Value} {G : Addr} (h : ∀ self, refuseLoop self "__setattr__" bm = pure ()) : refuseLoop self "__setattr__" (.ref G :: bm) = pure () := by
  rw [refuseLoop_ref]
  exact h self
end
def csOf (c0 c1 c2 c3 c4 c5 c6 c7 c8 : Addr) : Nat → Addr
  | 0 => c0
  | 1 => c1
  | 2 => c2
  | 3 => c3
  | 4 => c4
  | 5 => c5
  | 6 => c6
  | 7 => c7
  | _ => c8
def bmOf (cg : Addr) (i : Nat) : List Value := if i < 7 then .ref cg :: [.type "ValueError", .type "Exception", .type "BaseException", .type "object"] else if i = 7 then [.type "LookupError", .type "Exception", .type "BaseException", .type "object"] else [.type "OverflowError", .type "ArithmeticError", .type "Exception", .type "BaseException", .type "object"]
def niOf (i : Nat) : String := if i < 7 then "ValueError.__new__" else if i = 7 then "LookupError.__new__" else "OverflowError.__new__"
theorem nine_of {p : Nat → Prop} (h0 : p 0) (h1 : p 1) (h2 : p 2) (h3 : p 3) (h4 : p 4) (h5 : p 5) (h6 : p 6) (h7 : p 7) (h8 : p 8) : ∀ i, i < 9 → p i
  | 0, _ => h0
  | 1, _ => h1
  | 2, _ => h2
  | 3, _ => h3
  | 4, _ => h4
  | 5, _ => h5
  | 6, _ => h6
  | 7, _ => h7
  | 8, _ => h8
  | n + 9, h => absurd h (by omega)
theorem bm_type {cg : Addr} {T : String} {b7 bL bO : Bool} (h7 : ([.type "ValueError", .type "Exception", .type "BaseException", .type "object"] : List Value).contains (.type T) = b7) (hL : ([.type "LookupError", .type "Exception", .type "BaseException", .type "object"] : List Value).contains (.type T) = bL)
    (hO : ([.type "OverflowError", .type "ArithmeticError", .type "Exception", .type "BaseException", .type "object"] : List Value).contains (.type T) = bO) (i : Nat) : (bmOf cg i).contains (.type T) = if i < 7 then b7 else if i = 7 then bL else bO := by
  unfold bmOf
  have e : (Value.type T == Value.ref cg) = false := by
    rw [beq_eq_false_iff_ne]
    exact fun e => nomatch e
  by_cases h : i < 7
  · rw [if_pos h, if_pos h, List.contains_cons, e, Bool.false_or, h7]
  · rw [if_neg h, if_neg h]
    by_cases g : i = 7
    · rw [if_pos g, if_pos g, hL]
    · rw [if_neg g, if_neg g, hO]
theorem bm_ref {cg D : Addr} (ne : cg ≠ D) (i : Nat) : (bmOf cg i).contains (.ref D) = false := by
  have e : (Value.ref D == Value.ref cg) = false := ref_ne ne.symm
  have no : ∀ l : List Value, (∀ v ∈ l, ∃ T, v = Value.type T) → l.contains (.ref D) = false := fun l h => by
    rw [List.contains_eq_any_beq, List.any_eq_false]
    intro v hv z
    obtain ⟨T, rfl⟩ := h v hv
    rw [beq_iff_eq] at z
    cases z
  unfold bmOf
  by_cases h : i < 7
  · rw [if_pos h, List.contains_cons, e, Bool.false_or]
    exact no _ (by simp)
  · rw [if_neg h]
    by_cases g : i = 7
    · rw [if_pos g]
      exact no _ (by simp)
    · rw [if_neg g]
      exact no _ (by simp)
set_option maxHeartbeats 8000000 in
theorem all_mk {l : PySem.W.OpenLaw} {w : World} {K : PySem.W.Frag} {h : Heap} {mg : Str → Option Value} {fa cg c0 c1 c2 c3 c4 c5 c6 c7 c8 f0 f1 f2 f3 f4 f5 f6 f7 f8 fB fN fV fK fF fL : Addr} (X : K.In h) (G : h.Ns mainGlobals mg) (hfa : mg "law" = some (.ref fa))
    {od0 an0 od1 an1 od2 an2 od3 an3 od4 an4 od5 an5 od6 an6 od7 an7 od8 an8 odB anB odN anN odV anV odK anK odF anF odL anL : Option Addr} {sl0 sl1 sl2 sl3 sl4 sl5 sl6 sl7 sl8 slB slN slV slK slF slL : Array (Option Value)} {oc0 kV0 dc0 pm0 cd0 ct0 oc1 kV1 dc1 pm1 cd1 ct1 oc2 kV2 dc2 pm2 cd2 ct2 oc3 kV3 dc3 pm3 cd3 ct3 oc4 kV4 dc4 pm4 cd4 ct4 oc5 kV5 dc5 pm5 cd5 ct5 oc6 kV6 dc6 pm6 cd6 ct6 oc7 kV7 dc7 pm7 cd7 ct7 oc8 kV8 dc8 pm8 cd8 ct8 ocB kVB dcB pmB cdB ctB ocN kVN dcN pmN cdN ctN ocV kVV dcV pmV cdV ctV ocK kVK dcK pmK cdK ctK ocF kVF dcF pmF cdF ctF ocL kVL dcL pmL cdL ctL : Value}
    {nm0 qn0 nm1 qn1 nm2 qn2 nm3 qn3 nm4 qn4 nm5 qn5 nm6 qn6 nm7 qn7 nm8 qn8 nmG qnG : Str} {nn0 nn1 nn2 nn3 nn4 nn5 nn6 nn7 nn8 nnG : Addr} {bs0 sb0 bs1 sb1 bs2 sb2 bs3 sb3 bs4 sb4 bs5 sb5 bs6 sb6 bs7 sb7 bs8 sb8 bsG sbG : List Value} {sn0 sn1 sn2 sn3 sn4 sn5 sn6 sn7 sn8 snG : List Str} {ab0 ab1 ab2 ab3 ab4 ab5 ab6 ab7 ab8 abG : Bool} {cl0 cl1 cl2 cl3 cl4 cl5 cl6 cl7 cl8 clG : Option Bool} {dd0 dd1 dd2 dd3 dd4 dd5 dd6 dd7 dd8 ddG : Option Addr} {x00 x10 x20 x30 x50 x01 x11 x21 x31 x51 x02 x12 x22 x32 x52 x03 x13 x23 x33 x53 x04 x14 x24 x34 x54 x05 x15 x25 x35 x55 x06 x16 x26 x36 x56 x07 x17 x27 x37 x57 x08 x18 x28 x38 x58 x0G x1G x2G x3G x5G : Option Value}
    (aG : PySem.W.nsIn K mainGlobals "GrowthError" = some (some (.ref cg)))
    (a0 : PySem.W.nsIn K mainGlobals "BadTables" = some (some (.ref c0)))
    (a1 : PySem.W.nsIn K mainGlobals "BadWord" = some (some (.ref c1)))
    (a2 : PySem.W.nsIn K mainGlobals "BadNumber" = some (some (.ref c2)))
    (a3 : PySem.W.nsIn K mainGlobals "BadKind" = some (some (.ref c3)))
    (a4 : PySem.W.nsIn K mainGlobals "BadPairs" = some (some (.ref c4)))
    (a5 : PySem.W.nsIn K mainGlobals "BadPaper" = some (some (.ref c5)))
    (a6 : PySem.W.nsIn K mainGlobals "BadText" = some (some (.ref c6)))
    (a7 : PySem.W.nsIn K mainGlobals "Grows" = some (some (.ref c7)))
    (a8 : PySem.W.nsIn K mainGlobals "TooMany" = some (some (.ref c8)))
    (xG : K.lookup cg = some (excClassObj nmG qnG cg nnG bsG [.type "ValueError", .type "Exception", .type "BaseException", .type "object"] true snG sbG abG clG ddG x0G x1G x2G x3G x5G "ValueError.__new__"))
    (x0 : K.lookup c0 = some (excClassObj nm0 qn0 c0 nn0 bs0 [.ref cg, .type "ValueError", .type "Exception", .type "BaseException", .type "object"] true sn0 sb0 ab0 cl0 dd0 x00 x10 x20 x30 x50 "ValueError.__new__"))
    (x1 : K.lookup c1 = some (excClassObj nm1 qn1 c1 nn1 bs1 [.ref cg, .type "ValueError", .type "Exception", .type "BaseException", .type "object"] true sn1 sb1 ab1 cl1 dd1 x01 x11 x21 x31 x51 "ValueError.__new__"))
    (x2 : K.lookup c2 = some (excClassObj nm2 qn2 c2 nn2 bs2 [.ref cg, .type "ValueError", .type "Exception", .type "BaseException", .type "object"] true sn2 sb2 ab2 cl2 dd2 x02 x12 x22 x32 x52 "ValueError.__new__"))
    (x3 : K.lookup c3 = some (excClassObj nm3 qn3 c3 nn3 bs3 [.ref cg, .type "ValueError", .type "Exception", .type "BaseException", .type "object"] true sn3 sb3 ab3 cl3 dd3 x03 x13 x23 x33 x53 "ValueError.__new__"))
    (x4 : K.lookup c4 = some (excClassObj nm4 qn4 c4 nn4 bs4 [.ref cg, .type "ValueError", .type "Exception", .type "BaseException", .type "object"] true sn4 sb4 ab4 cl4 dd4 x04 x14 x24 x34 x54 "ValueError.__new__"))
    (x5 : K.lookup c5 = some (excClassObj nm5 qn5 c5 nn5 bs5 [.ref cg, .type "ValueError", .type "Exception", .type "BaseException", .type "object"] true sn5 sb5 ab5 cl5 dd5 x05 x15 x25 x35 x55 "ValueError.__new__"))
    (x6 : K.lookup c6 = some (excClassObj nm6 qn6 c6 nn6 bs6 [.ref cg, .type "ValueError", .type "Exception", .type "BaseException", .type "object"] true sn6 sb6 ab6 cl6 dd6 x06 x16 x26 x36 x56 "ValueError.__new__"))
    (x7 : K.lookup c7 = some (excClassObj nm7 qn7 c7 nn7 bs7 [.type "LookupError", .type "Exception", .type "BaseException", .type "object"] true sn7 sb7 ab7 cl7 dd7 x07 x17 x27 x37 x57 "LookupError.__new__"))
    (x8 : K.lookup c8 = some (excClassObj nm8 qn8 c8 nn8 bs8 [.type "OverflowError", .type "ArithmeticError", .type "Exception", .type "BaseException", .type "object"] true sn8 sb8 ab8 cl8 dd8 x08 x18 x28 x38 x58 "OverflowError.__new__"))
    (saG : PySem.W.findIn K (.ref cg) "__setattr__" = some (some (.builtin "object.__setattr__")))
    (gaG : PySem.W.findIn K (.ref cg) "__getattribute__" = some (some (.builtin "BaseException.__getattribute__")))
    (ggG : PySem.W.findIn K (.ref cg) "__getattr__" = some none)
    (kpG : PySem.W.keepIn K (.ref cg) = true)
    (hdG : PySem.W.hasDictIn K cg = true)
    (ccG : PySem.W.findIn K (.ref cg) "__class__" = some (some (.builtin "object.__class__")))
    (sa0 : PySem.W.findIn K (.ref c0) "__setattr__" = some (some (.builtin "object.__setattr__")))
    (ga0 : PySem.W.findIn K (.ref c0) "__getattribute__" = some (some (.builtin "BaseException.__getattribute__")))
    (gg0 : PySem.W.findIn K (.ref c0) "__getattr__" = some none)
    (kp0 : PySem.W.keepIn K (.ref c0) = true)
    (hd0 : PySem.W.hasDictIn K c0 = true)
    (cc0 : PySem.W.findIn K (.ref c0) "__class__" = some (some (.builtin "object.__class__")))
    (sa1 : PySem.W.findIn K (.ref c1) "__setattr__" = some (some (.builtin "object.__setattr__")))
    (ga1 : PySem.W.findIn K (.ref c1) "__getattribute__" = some (some (.builtin "BaseException.__getattribute__")))
    (gg1 : PySem.W.findIn K (.ref c1) "__getattr__" = some none)
    (kp1 : PySem.W.keepIn K (.ref c1) = true)
    (hd1 : PySem.W.hasDictIn K c1 = true)
    (cc1 : PySem.W.findIn K (.ref c1) "__class__" = some (some (.builtin "object.__class__")))
    (sa2 : PySem.W.findIn K (.ref c2) "__setattr__" = some (some (.builtin "object.__setattr__")))
    (ga2 : PySem.W.findIn K (.ref c2) "__getattribute__" = some (some (.builtin "BaseException.__getattribute__")))
    (gg2 : PySem.W.findIn K (.ref c2) "__getattr__" = some none)
    (kp2 : PySem.W.keepIn K (.ref c2) = true)
    (hd2 : PySem.W.hasDictIn K c2 = true)
    (cc2 : PySem.W.findIn K (.ref c2) "__class__" = some (some (.builtin "object.__class__")))
    (sa3 : PySem.W.findIn K (.ref c3) "__setattr__" = some (some (.builtin "object.__setattr__")))
    (ga3 : PySem.W.findIn K (.ref c3) "__getattribute__" = some (some (.builtin "BaseException.__getattribute__")))
    (gg3 : PySem.W.findIn K (.ref c3) "__getattr__" = some none)
    (kp3 : PySem.W.keepIn K (.ref c3) = true)
    (hd3 : PySem.W.hasDictIn K c3 = true)
    (cc3 : PySem.W.findIn K (.ref c3) "__class__" = some (some (.builtin "object.__class__")))
    (sa4 : PySem.W.findIn K (.ref c4) "__setattr__" = some (some (.builtin "object.__setattr__")))
    (ga4 : PySem.W.findIn K (.ref c4) "__getattribute__" = some (some (.builtin "BaseException.__getattribute__")))
    (gg4 : PySem.W.findIn K (.ref c4) "__getattr__" = some none)
    (kp4 : PySem.W.keepIn K (.ref c4) = true)
    (hd4 : PySem.W.hasDictIn K c4 = true)
    (cc4 : PySem.W.findIn K (.ref c4) "__class__" = some (some (.builtin "object.__class__")))
    (sa5 : PySem.W.findIn K (.ref c5) "__setattr__" = some (some (.builtin "object.__setattr__")))
    (ga5 : PySem.W.findIn K (.ref c5) "__getattribute__" = some (some (.builtin "BaseException.__getattribute__")))
    (gg5 : PySem.W.findIn K (.ref c5) "__getattr__" = some none)
    (kp5 : PySem.W.keepIn K (.ref c5) = true)
    (hd5 : PySem.W.hasDictIn K c5 = true)
    (cc5 : PySem.W.findIn K (.ref c5) "__class__" = some (some (.builtin "object.__class__")))
    (sa6 : PySem.W.findIn K (.ref c6) "__setattr__" = some (some (.builtin "object.__setattr__")))
    (ga6 : PySem.W.findIn K (.ref c6) "__getattribute__" = some (some (.builtin "BaseException.__getattribute__")))
    (gg6 : PySem.W.findIn K (.ref c6) "__getattr__" = some none)
    (kp6 : PySem.W.keepIn K (.ref c6) = true)
    (hd6 : PySem.W.hasDictIn K c6 = true)
    (cc6 : PySem.W.findIn K (.ref c6) "__class__" = some (some (.builtin "object.__class__")))
    (sa7 : PySem.W.findIn K (.ref c7) "__setattr__" = some (some (.builtin "object.__setattr__")))
    (ga7 : PySem.W.findIn K (.ref c7) "__getattribute__" = some (some (.builtin "BaseException.__getattribute__")))
    (gg7 : PySem.W.findIn K (.ref c7) "__getattr__" = some none)
    (kp7 : PySem.W.keepIn K (.ref c7) = true)
    (hd7 : PySem.W.hasDictIn K c7 = true)
    (cc7 : PySem.W.findIn K (.ref c7) "__class__" = some (some (.builtin "object.__class__")))
    (sa8 : PySem.W.findIn K (.ref c8) "__setattr__" = some (some (.builtin "object.__setattr__")))
    (ga8 : PySem.W.findIn K (.ref c8) "__getattribute__" = some (some (.builtin "BaseException.__getattribute__")))
    (gg8 : PySem.W.findIn K (.ref c8) "__getattr__" = some none)
    (kp8 : PySem.W.keepIn K (.ref c8) = true)
    (hd8 : PySem.W.hasDictIn K c8 = true)
    (cc8 : PySem.W.findIn K (.ref c8) "__class__" = some (some (.builtin "object.__class__")))
    (no0 : PySem.W.findIn K (.ref c0) "place" = some none)
    (in0 : PySem.W.findIn K (.ref c0) "__init__" = some (some (.ref f0)))
    (ti0 : PySem.W.typeIn K (.ref f0) = some (.type "function"))
    (l0 : K.lookup f0 = some ⟨oc0, od0, .func (PySem.W.fnOf "__init__" "BadTables.__init__" (defArgs sI0) (defBody sI0) (defScope sI0) .none kV0 dc0 pm0 an0 cd0 ct0), sl0⟩)
    (cd_0 : PySem.W.codeIn K cd0 "BadTables.__init__" = true)
    (kf0 : PySem.W.keepIn K (.ref f0) = true)
    (no1 : PySem.W.findIn K (.ref c1) "value" = some none)
    (in1 : PySem.W.findIn K (.ref c1) "__init__" = some (some (.ref f1)))
    (ti1 : PySem.W.typeIn K (.ref f1) = some (.type "function"))
    (l1 : K.lookup f1 = some ⟨oc1, od1, .func (PySem.W.fnOf "__init__" "BadWord.__init__" (defArgs sI1) (defBody sI1) (defScope sI1) .none kV1 dc1 pm1 an1 cd1 ct1), sl1⟩)
    (cd_1 : PySem.W.codeIn K cd1 "BadWord.__init__" = true)
    (kf1 : PySem.W.keepIn K (.ref f1) = true)
    (no2 : PySem.W.findIn K (.ref c2) "value" = some none)
    (in2 : PySem.W.findIn K (.ref c2) "__init__" = some (some (.ref f2)))
    (ti2 : PySem.W.typeIn K (.ref f2) = some (.type "function"))
    (l2 : K.lookup f2 = some ⟨oc2, od2, .func (PySem.W.fnOf "__init__" "BadNumber.__init__" (defArgs sI2) (defBody sI2) (defScope sI2) .none kV2 dc2 pm2 an2 cd2 ct2), sl2⟩)
    (cd_2 : PySem.W.codeIn K cd2 "BadNumber.__init__" = true)
    (kf2 : PySem.W.keepIn K (.ref f2) = true)
    (no3 : PySem.W.findIn K (.ref c3) "value" = some none)
    (in3 : PySem.W.findIn K (.ref c3) "__init__" = some (some (.ref f3)))
    (ti3 : PySem.W.typeIn K (.ref f3) = some (.type "function"))
    (l3 : K.lookup f3 = some ⟨oc3, od3, .func (PySem.W.fnOf "__init__" "BadKind.__init__" (defArgs sI3) (defBody sI3) (defScope sI3) .none kV3 dc3 pm3 an3 cd3 ct3), sl3⟩)
    (cd_3 : PySem.W.codeIn K cd3 "BadKind.__init__" = true)
    (kf3 : PySem.W.keepIn K (.ref f3) = true)
    (no4 : PySem.W.findIn K (.ref c4) "value" = some none)
    (in4 : PySem.W.findIn K (.ref c4) "__init__" = some (some (.ref f4)))
    (ti4 : PySem.W.typeIn K (.ref f4) = some (.type "function"))
    (l4 : K.lookup f4 = some ⟨oc4, od4, .func (PySem.W.fnOf "__init__" "BadPairs.__init__" (defArgs sI4) (defBody sI4) (defScope sI4) .none kV4 dc4 pm4 an4 cd4 ct4), sl4⟩)
    (cd_4 : PySem.W.codeIn K cd4 "BadPairs.__init__" = true)
    (kf4 : PySem.W.keepIn K (.ref f4) = true)
    (no5 : PySem.W.findIn K (.ref c5) "place" = some none)
    (in5 : PySem.W.findIn K (.ref c5) "__init__" = some (some (.ref f5)))
    (ti5 : PySem.W.typeIn K (.ref f5) = some (.type "function"))
    (l5 : K.lookup f5 = some ⟨oc5, od5, .func (PySem.W.fnOf "__init__" "BadPaper.__init__" (defArgs sI5) (defBody sI5) (defScope sI5) .none kV5 dc5 pm5 an5 cd5 ct5), sl5⟩)
    (cd_5 : PySem.W.codeIn K cd5 "BadPaper.__init__" = true)
    (kf5 : PySem.W.keepIn K (.ref f5) = true)
    (no6 : PySem.W.findIn K (.ref c6) "line" = some none)
    (in6 : PySem.W.findIn K (.ref c6) "__init__" = some (some (.ref f6)))
    (ti6 : PySem.W.typeIn K (.ref f6) = some (.type "function"))
    (l6 : K.lookup f6 = some ⟨oc6, od6, .func (PySem.W.fnOf "__init__" "BadText.__init__" (defArgs sI6) (defBody sI6) (defScope sI6) .none kV6 dc6 pm6 an6 cd6 ct6), sl6⟩)
    (cd_6 : PySem.W.codeIn K cd6 "BadText.__init__" = true)
    (kf6 : PySem.W.keepIn K (.ref f6) = true)
    (no7 : PySem.W.findIn K (.ref c7) "paper" = some none)
    (in7 : PySem.W.findIn K (.ref c7) "__init__" = some (some (.ref f7)))
    (ti7 : PySem.W.typeIn K (.ref f7) = some (.type "function"))
    (l7 : K.lookup f7 = some ⟨oc7, od7, .func (PySem.W.fnOf "__init__" "Grows.__init__" (defArgs sI7) (defBody sI7) (defScope sI7) .none kV7 dc7 pm7 an7 cd7 ct7), sl7⟩)
    (cd_7 : PySem.W.codeIn K cd7 "Grows.__init__" = true)
    (kf7 : PySem.W.keepIn K (.ref f7) = true)
    (no8 : PySem.W.findIn K (.ref c8) "most" = some none)
    (in8 : PySem.W.findIn K (.ref c8) "__init__" = some (some (.ref f8)))
    (ti8 : PySem.W.typeIn K (.ref f8) = some (.type "function"))
    (l8 : K.lookup f8 = some ⟨oc8, od8, .func (PySem.W.fnOf "__init__" "TooMany.__init__" (defArgs sI8) (defBody sI8) (defScope sI8) .none kV8 dc8 pm8 an8 cd8 ct8), sl8⟩)
    (cd_8 : PySem.W.codeIn K cd8 "TooMany.__init__" = true)
    (kf8 : PySem.W.keepIn K (.ref f8) = true)
    (mB : PySem.W.nsIn K mainGlobals "_law_begun" = some (some (.ref fB)))
    (lB : K.lookup fB = some ⟨ocB, odB, .func (PySem.W.fnOf "_law_begun" "_law_begun" (defArgs sBegun) (defBody sBegun) (defScope sBegun) .none kVB dcB pmB anB cdB ctB), slB⟩)
    (cd_B : PySem.W.codeIn K cdB "_law_begun" = true)
    (kfB : PySem.W.keepIn K (.ref fB) = true)
    (mN : PySem.W.nsIn K mainGlobals "_law_next" = some (some (.ref fN)))
    (lN : K.lookup fN = some ⟨ocN, odN, .func (PySem.W.fnOf "_law_next" "_law_next" (defArgs sNext) (defBody sNext) (defScope sNext) .none kVN dcN pmN anN cdN ctN), slN⟩)
    (cd_N : PySem.W.codeIn K cdN "_law_next" = true)
    (kfN : PySem.W.keepIn K (.ref fN) = true)
    (mV : PySem.W.nsIn K mainGlobals "_law_value" = some (some (.ref fV)))
    (lV : K.lookup fV = some ⟨ocV, odV, .func (PySem.W.fnOf "_law_value" "_law_value" (defArgs sValue) (defBody sValue) (defScope sValue) .none kVV dcV pmV anV cdV ctV), slV⟩)
    (cd_V : PySem.W.codeIn K cdV "_law_value" = true)
    (kfV : PySem.W.keepIn K (.ref fV) = true)
    (mK : PySem.W.nsIn K mainGlobals "_law_kinds" = some (some (.ref fK)))
    (lK : K.lookup fK = some ⟨ocK, odK, .func (PySem.W.fnOf "_law_kinds" "_law_kinds" (defArgs sKinds) (defBody sKinds) (defScope sKinds) .none kVK dcK pmK anK cdK ctK), slK⟩)
    (cd_K : PySem.W.codeIn K cdK "_law_kinds" = true)
    (kfK : PySem.W.keepIn K (.ref fK) = true)
    (mF : PySem.W.nsIn K mainGlobals "_law_field" = some (some (.ref fF)))
    (lF : K.lookup fF = some ⟨ocF, odF, .func (PySem.W.fnOf "_law_field" "_law_field" (defArgs sField) (defBody sField) (defScope sField) .none kVF dcF pmF anF cdF ctF), slF⟩)
    (cd_F : PySem.W.codeIn K cdF "_law_field" = true)
    (kfF : PySem.W.keepIn K (.ref fF) = true)
    (mL : PySem.W.nsIn K mainGlobals "law" = some (some (.ref fL)))
    (lL : K.lookup fL = some ⟨ocL, odL, .func (PySem.W.fnOf "law" "law" (defArgs sLaw) (defBody sLaw) (defScope sLaw) .none kVL dcL pmL anL cdL ctL), slL⟩)
    (cd_L : PySem.W.codeIn K cdL "law" = true)
    (kfL : PySem.W.keepIn K (.ref fL) = true)
    (exG : PySem.W.excIn K cg [.type "ValueError", .type "Exception", .type "BaseException", .type "object"] "ValueError.__new__" = true)
    (ccg : PySem.W.specialIn K (.builtin "object.__class__") "__get__" = some (some (.builtin "getset_descriptor.__get__")))
    (cct : PySem.W.takesIn K (.builtin "object.__class__") = some true)
    (z_int : PySem.W.nsIn K mainGlobals "int" = some none)
    (z_len : PySem.W.nsIn K mainGlobals "len" = some none)
    (z_list : PySem.W.nsIn K mainGlobals "list" = some none)
    (z_range : PySem.W.nsIn K mainGlobals "range" = some none)
    (z_min : PySem.W.nsIn K mainGlobals "min" = some none)
    (z_repr : PySem.W.nsIn K mainGlobals "repr" = some none)
    (z_enumerate : PySem.W.nsIn K mainGlobals "enumerate" = some none)
    (z_isinstance : PySem.W.nsIn K mainGlobals "isinstance" = some none)
    (z_ValueError : PySem.W.nsIn K mainGlobals "ValueError" = some none)
    (z_LookupError : PySem.W.nsIn K mainGlobals "LookupError" = some none)
    (z_OverflowError : PySem.W.nsIn K mainGlobals "OverflowError" = some none)
    (z_KeyError : PySem.W.nsIn K mainGlobals "KeyError" = some none)
    (z_IndexError : PySem.W.nsIn K mainGlobals "IndexError" = some none)
    (inj : ∀ i : Fin 9, ∀ k : Fin 9, csOf c0 c1 c2 c3 c4 c5 c6 c7 c8 i = csOf c0 c1 c2 c3 c4 c5 c6 c7 c8 k → i = k)
    (away : ∀ i : Fin 9, cg ≠ csOf c0 c1 c2 c3 c4 c5 c6 c7 c8 i)
    : ∃ fd : FuncData, (∀ (s : Shared) (v : Value), BindsTo s fd ⟨[v], []⟩ [("script", v)]) ∧ ∀ base : Heap, K.In base → base.Ns mainGlobals mg → FnG l.prog w K mg base CX0 3 fa fd ["script"] (spLaw K) := by
  have e := hfa.symm.trans (PySem.W.mg_of X G mL)
  cases e
  have dG : CDat K cg [.type "ValueError", .type "Exception", .type "BaseException", .type "object"] "ValueError.__new__" := ⟨_, _, _, _, _, _, _, _, _, _, _, _, _, _, xG⟩
  have d0 : CDat K c0 [.ref cg, .type "ValueError", .type "Exception", .type "BaseException", .type "object"] "ValueError.__new__" := ⟨_, _, _, _, _, _, _, _, _, _, _, _, _, _, x0⟩
  have d1 : CDat K c1 [.ref cg, .type "ValueError", .type "Exception", .type "BaseException", .type "object"] "ValueError.__new__" := ⟨_, _, _, _, _, _, _, _, _, _, _, _, _, _, x1⟩
  have d2 : CDat K c2 [.ref cg, .type "ValueError", .type "Exception", .type "BaseException", .type "object"] "ValueError.__new__" := ⟨_, _, _, _, _, _, _, _, _, _, _, _, _, _, x2⟩
  have d3 : CDat K c3 [.ref cg, .type "ValueError", .type "Exception", .type "BaseException", .type "object"] "ValueError.__new__" := ⟨_, _, _, _, _, _, _, _, _, _, _, _, _, _, x3⟩
  have d4 : CDat K c4 [.ref cg, .type "ValueError", .type "Exception", .type "BaseException", .type "object"] "ValueError.__new__" := ⟨_, _, _, _, _, _, _, _, _, _, _, _, _, _, x4⟩
  have d5 : CDat K c5 [.ref cg, .type "ValueError", .type "Exception", .type "BaseException", .type "object"] "ValueError.__new__" := ⟨_, _, _, _, _, _, _, _, _, _, _, _, _, _, x5⟩
  have d6 : CDat K c6 [.ref cg, .type "ValueError", .type "Exception", .type "BaseException", .type "object"] "ValueError.__new__" := ⟨_, _, _, _, _, _, _, _, _, _, _, _, _, _, x6⟩
  have d7 : CDat K c7 [.type "LookupError", .type "Exception", .type "BaseException", .type "object"] "LookupError.__new__" := ⟨_, _, _, _, _, _, _, _, _, _, _, _, _, _, x7⟩
  have d8 : CDat K c8 [.type "OverflowError", .type "ArithmeticError", .type "Exception", .type "BaseException", .type "object"] "OverflowError.__new__" := ⟨_, _, _, _, _, _, _, _, _, _, _, _, _, _, x8⟩
  have passV : ∀ self, refuseLoop self "__setattr__" ([.type "ValueError", .type "Exception", .type "BaseException", .type "object"] : List Value) = pure () := fun self => PySem.F.store_ValueError.passes self
  have tG := oex_mk dG ⟨saG, gaG, ggG, kpG, hdG, ccG⟩ PySem.F.excBase_ValueError (fun _ => rfl) (fun self => pass_up passV) (by decide +kernel) ccg cct
  have isV : ∀ Y : String, (.ref cg :: [.type "ValueError", .type "Exception", .type "BaseException", .type "object"] : List Value).contains (.type Y) = ([.type "ValueError", .type "Exception", .type "BaseException", .type "object"] : List Value).contains (.type Y) := fun Y => refsVE_contains Y (.ref cg :: [.type "ValueError", .type "Exception", .type "BaseException", .type "object"]) rfl
  have t0 := oex_mk d0 ⟨sa0, ga0, gg0, kp0, hd0, cc0⟩ PySem.F.excBase_ValueError isV (fun self => pass_up fun self => pass_up passV) (by decide +kernel) ccg cct
  have t1 := oex_mk d1 ⟨sa1, ga1, gg1, kp1, hd1, cc1⟩ PySem.F.excBase_ValueError isV (fun self => pass_up fun self => pass_up passV) (by decide +kernel) ccg cct
  have t2 := oex_mk d2 ⟨sa2, ga2, gg2, kp2, hd2, cc2⟩ PySem.F.excBase_ValueError isV (fun self => pass_up fun self => pass_up passV) (by decide +kernel) ccg cct
  have t3 := oex_mk d3 ⟨sa3, ga3, gg3, kp3, hd3, cc3⟩ PySem.F.excBase_ValueError isV (fun self => pass_up fun self => pass_up passV) (by decide +kernel) ccg cct
  have t4 := oex_mk d4 ⟨sa4, ga4, gg4, kp4, hd4, cc4⟩ PySem.F.excBase_ValueError isV (fun self => pass_up fun self => pass_up passV) (by decide +kernel) ccg cct
  have t5 := oex_mk d5 ⟨sa5, ga5, gg5, kp5, hd5, cc5⟩ PySem.F.excBase_ValueError isV (fun self => pass_up fun self => pass_up passV) (by decide +kernel) ccg cct
  have t6 := oex_mk d6 ⟨sa6, ga6, gg6, kp6, hd6, cc6⟩ PySem.F.excBase_ValueError isV (fun self => pass_up fun self => pass_up passV) (by decide +kernel) ccg cct
  have t7 := oex_mk d7 ⟨sa7, ga7, gg7, kp7, hd7, cc7⟩ PySem.F.excBase_LookupError (fun _ => rfl) (fun self => pass_up fun self => PySem.F.store_LookupError.passes self) (by decide +kernel) ccg cct
  have t8 := oex_mk d8 ⟨sa8, ga8, gg8, kp8, hd8, cc8⟩ PySem.F.excBase_OverflowError (fun _ => rfl) (fun self => pass_up fun self => PySem.F.store_OverflowError.passes self) (by decide +kernel) ccg cct
  have dat : ∀ i, i < 9 → CDat K (csOf c0 c1 c2 c3 c4 c5 c6 c7 c8 i) (bmOf cg i) (niOf i) := nine_of d0 d1 d2 d3 d4 d5 d6 d7 d8
  have ne : ∀ i k, i < 9 → k < 9 → i ≠ k → csOf c0 c1 c2 c3 c4 c5 c6 c7 c8 i ≠ csOf c0 c1 c2 c3 c4 c5 c6 c7 c8 k := fun i k hi hk n e => n (congrArg Fin.val (inj ⟨i, hi⟩ ⟨k, hk⟩ e))
  have nine : Nine K mg (csOf c0 c1 c2 c3 c4 c5 c6 c7 c8) cg := by
    refine ⟨nine_of ⟨_, _, _, _, t0⟩ ⟨_, _, _, _, t1⟩ ⟨_, _, _, _, t2⟩ ⟨_, _, _, _, t3⟩ ⟨_, _, _, _, t4⟩ ⟨_, _, _, _, t5⟩ ⟨_, _, _, _, t6⟩ ⟨_, _, _, _, t7⟩ ⟨_, _, _, _, t8⟩,
      nine_of no0 no1 no2 no3 no4 no5 no6 no7 no8, fun i k hi hk => ?_, ?_, fun i hi => ?_, fun i hi => ?_, fun i hi => ?_, fun i hi => ?_, fun i hi => ?_,
      PySem.W.mg_of X G a0, PySem.W.mg_of X G a1, PySem.W.mg_of X G a2, PySem.W.mg_of X G a3, PySem.W.mg_of X G a4, PySem.W.mg_of X G a5, PySem.W.mg_of X G a6, PySem.W.mg_of X G a7, PySem.W.mg_of X G a8, PySem.W.mg_of X G aG, PySem.W.mg_none_of X G z_isinstance⟩
    · by_cases e : i = k
      · subst e
        rw [decide_eq_true rfl]
        exact kit_self
      · rw [decide_eq_false fun z => e z.symm]
        exact kit_ref (dat i hi) (dat k hk) (ne i k hi hk e) (bm_ref (away ⟨k, hk⟩) i)
    · refine nine_of ?_ ?_ ?_ ?_ ?_ ?_ ?_ ?_ ?_
      · exact kit_ref d0 dG (away 0).symm (by rw [List.contains_cons, beq_self_eq_true, Bool.true_or]; rfl)
      · exact kit_ref d1 dG (away 1).symm (by rw [List.contains_cons, beq_self_eq_true, Bool.true_or]; rfl)
      · exact kit_ref d2 dG (away 2).symm (by rw [List.contains_cons, beq_self_eq_true, Bool.true_or]; rfl)
      · exact kit_ref d3 dG (away 3).symm (by rw [List.contains_cons, beq_self_eq_true, Bool.true_or]; rfl)
      · exact kit_ref d4 dG (away 4).symm (by rw [List.contains_cons, beq_self_eq_true, Bool.true_or]; rfl)
      · exact kit_ref d5 dG (away 5).symm (by rw [List.contains_cons, beq_self_eq_true, Bool.true_or]; rfl)
      · exact kit_ref d6 dG (away 6).symm (by rw [List.contains_cons, beq_self_eq_true, Bool.true_or]; rfl)
      · exact kit_ref d7 dG (away 7).symm rfl
      · exact kit_ref d8 dG (away 8).symm rfl
    · rw [kit_type (dat i hi) (by decide +kernel) (bm_type (b7 := true) (bL := false) (bO := false) (by decide +kernel) (by decide +kernel) (by decide +kernel) i)]
      exact congrArg some (by split <;> simp_all)
    · rw [kit_type (dat i hi) (by decide +kernel) (bm_type (b7 := false) (bL := true) (bO := false) (by decide +kernel) (by decide +kernel) (by decide +kernel) i)]
      refine congrArg some ?_
      split
      · exact (decide_eq_false (by omega)).symm
      · split
        · exact (decide_eq_true (by omega)).symm
        · exact (decide_eq_false (by omega)).symm
    · rw [kit_type (dat i hi) (by decide +kernel) (bm_type (b7 := false) (bL := false) (bO := true) (by decide +kernel) (by decide +kernel) (by decide +kernel) i)]
      refine congrArg some ?_
      split
      · exact (decide_eq_false (by omega)).symm
      · split
        · exact (decide_eq_false (by omega)).symm
        · exact (decide_eq_true (by omega)).symm
    · rw [kit_type (dat i hi) (by decide +kernel) (bm_type (b7 := false) (bL := false) (bO := false) (by decide +kernel) (by decide +kernel) (by decide +kernel) i)]
      split
      · rfl
      · split <;> rfl
    · rw [kit_type (dat i hi) (by decide +kernel) (bm_type (b7 := false) (bL := false) (bO := false) (by decide +kernel) (by decide +kernel) (by decide +kernel) i)]
      split
      · rfl
      · split <;> rfl
  have F0 := fun_mk (st := sI0) l0 cd_0 kf0
  have F1 := fun_mk (st := sI1) l1 cd_1 kf1
  have F2 := fun_mk (st := sI2) l2 cd_2 kf2
  have F3 := fun_mk (st := sI3) l3 cd_3 kf3
  have F4 := fun_mk (st := sI4) l4 cd_4 kf4
  have F5 := fun_mk (st := sI5) l5 cd_5 kf5
  have F6 := fun_mk (st := sI6) l6 cd_6 kf6
  have F7 := fun_mk (st := sI7) l7 cd_7 kf7
  have F8 := fun_mk (st := sI8) l8 cd_8 kf8
  have FB := fun_mk (st := sBegun) lB cd_B kfB
  have FN := fun_mk (st := sNext) lN cd_N kfN
  have FV := fun_mk (st := sValue) lV cd_V kfV
  have FK := fun_mk (st := sKinds) lK cd_K kfK
  have FF := fun_mk (st := sField) lF cd_F kfF
  have FL := fun_mk (st := sLaw) lL cd_L kfL
  have bB := FB.binds (ps := ["script"]) fun _ _ _ _ _ _ us hl => match us, hl with | [_], _ => rfl
  have bN := FN.binds (ps := ["m", "many"]) fun _ _ _ _ _ _ us hl => match us, hl with | [_, _], _ => rfl
  have bV := FV.binds (ps := ["m"]) fun _ _ _ _ _ _ us hl => match us, hl with | [_], _ => rfl
  have bK := FK.binds (ps := ["one"]) fun _ _ _ _ _ _ us hl => match us, hl with | [_], _ => rfl
  have bF := FF.binds (ps := ["one"]) fun _ _ _ _ _ _ us hl => match us, hl with | [_], _ => rfl
  have TL : TxL K mg cg fB fV fK fF := ⟨PySem.W.mg_of X G mB, kfB, PySem.W.mg_of X G mV, kfV, PySem.W.mg_of X G mK, kfK, PySem.W.mg_of X G mF, kfF, PySem.W.mg_none_of X G z_range, PySem.W.mg_none_of X G z_min, PySem.W.mg_none_of X G z_len, PySem.W.mg_none_of X G z_repr, PySem.W.mg_none_of X G z_enumerate,
    PySem.W.mg_none_of X G z_ValueError, PySem.W.mg_none_of X G z_LookupError, PySem.W.mg_none_of X G z_OverflowError, PySem.W.mg_none_of X G z_KeyError, PySem.W.mg_none_of X G z_IndexError, exG, kpG, tG, kit_type dG (by decide +kernel) (by decide +kernel)⟩
  refine ⟨PySem.W.fnOf "law" "law" (defArgs sLaw) (defBody sLaw) (defScope sLaw) .none kVL dcL pmL anL cdL ctL, fun s v => .of_eq rfl, fun base _ _ => ?_⟩
  have GN : FnOk l.prog w K mg base CX0 1 fN _ ["m", "many"] spNext := ok_next FN ⟨PySem.W.mg_none_of X G z_int, PySem.W.mg_none_of X G z_len⟩
  exact ok_law FL TL nine (ok_begun FB ⟨PySem.W.mg_none_of X G z_list⟩) bB (ok_value FV ⟨PySem.W.mg_of X G mN, kfN⟩ GN bN) bV (ok_kinds FK nine) bK (ok_field FF nine) bF
    (nine_of ⟨_, _, _, _, _, _, ok_I0 F0 t0 no0, t0, in0, ti0, fun s us hl => match us, hl with | [_, _], _ => .of_eq rfl, fun s u v => .of_eq rfl⟩ ⟨_, _, _, _, _, _, ok_I1 F1 t1 no1, t1, in1, ti1, fun s us hl => match us, hl with | [_, _], _ => .of_eq rfl, fun s u v => .of_eq rfl⟩ ⟨_, _, _, _, _, _, ok_I2 F2 t2 no2, t2, in2, ti2, fun s us hl => match us, hl with | [_, _], _ => .of_eq rfl, fun s u v => .of_eq rfl⟩ ⟨_, _, _, _, _, _, ok_I3 F3 t3 no3, t3, in3, ti3, fun s us hl => match us, hl with | [_, _], _ => .of_eq rfl, fun s u v => .of_eq rfl⟩ ⟨_, _, _, _, _, _, ok_I4 F4 t4 no4, t4, in4, ti4, fun s us hl => match us, hl with | [_, _], _ => .of_eq rfl, fun s u v => .of_eq rfl⟩ ⟨_, _, _, _, _, _, ok_I5 F5 t5 no5, t5, in5, ti5, fun s us hl => match us, hl with | [_, _], _ => .of_eq rfl, fun s u v => .of_eq rfl⟩ ⟨_, _, _, _, _, _, ok_I6 F6 t6 no6, t6, in6, ti6, fun s us hl => match us, hl with | [_, _], _ => .of_eq rfl, fun s u v => .of_eq rfl⟩ ⟨_, _, _, _, _, _, ok_I7 F7 t7 no7, t7, in7, ti7, fun s us hl => match us, hl with | [_, _], _ => .of_eq rfl, fun s u v => .of_eq rfl⟩ ⟨_, _, _, _, _, _, ok_I8 F8 t8 no8, t8, in8, ti8, fun s us hl => match us, hl with | [_, _], _ => .of_eq rfl, fun s u v => .of_eq rfl⟩)
end G
open PySem PySem.W PyProof.Rows
set_option maxRecDepth 100000 in
set_option maxHeartbeats 8000000 in
theorem PySem.Challenge.cw_growthkinds_k70_errors_holds : PySem.Challenge.rw_growthkinds_k70_errors.Holds := by
  w_on; o_law; k_head; (case hw => w_witness2)
  k_fill
  refine G.walkG (l := PySem.Challenge.rw_growthkinds_k70_errors) (n := 63) (k := 3) (x := "script") (sp := fun w => G.spLaw _) rfl (by decide) rfl ⟨rfl, by decide, by decide⟩ (fun w h Y => PySem.W.kIn_of Y) ?F (fun w H a ns hl hS => ⟨a, ns, rfl, hS, hl, fun _ => rfl⟩)
  case F =>
    intro w mg fa h KX hG hmg
    refine' G.all_mk KX hG hmg ?aG ?a0 ?a1 ?a2 ?a3 ?a4 ?a5 ?a6 ?a7 ?a8 ?xG ?x0 ?x1 ?x2 ?x3 ?x4 ?x5 ?x6 ?x7 ?x8 ?saG ?gaG ?ggG ?kpG ?hdG ?ccG ?sa0 ?ga0 ?gg0 ?kp0 ?hd0 ?cc0 ?sa1 ?ga1 ?gg1 ?kp1 ?hd1 ?cc1 ?sa2 ?ga2 ?gg2 ?kp2 ?hd2 ?cc2 ?sa3 ?ga3 ?gg3 ?kp3 ?hd3 ?cc3 ?sa4 ?ga4 ?gg4 ?kp4 ?hd4 ?cc4 ?sa5 ?ga5 ?gg5 ?kp5 ?hd5 ?cc5 ?sa6 ?ga6 ?gg6 ?kp6 ?hd6 ?cc6 ?sa7 ?ga7 ?gg7 ?kp7 ?hd7 ?cc7 ?sa8 ?ga8 ?gg8 ?kp8 ?hd8 ?cc8 ?no0 ?in0 ?ti0 ?l0 ?cd_0 ?kf0 ?no1 ?in1 ?ti1 ?l1 ?cd_1 ?kf1 ?no2 ?in2 ?ti2 ?l2 ?cd_2 ?kf2 ?no3 ?in3 ?ti3 ?l3 ?cd_3 ?kf3 ?no4 ?in4 ?ti4 ?l4 ?cd_4 ?kf4 ?no5 ?in5 ?ti5 ?l5 ?cd_5 ?kf5 ?no6 ?in6 ?ti6 ?l6 ?cd_6 ?kf6 ?no7 ?in7 ?ti7 ?l7 ?cd_7 ?kf7 ?no8 ?in8 ?ti8 ?l8 ?cd_8 ?kf8 ?mB ?lB ?cd_B ?kfB ?mN ?lN ?cd_N ?kfN ?mV ?lV ?cd_V ?kfV ?mK ?lK ?cd_K ?kfK ?mF ?lF ?cd_F ?kfF ?mL ?lL ?cd_L ?kfL ?exG ?ccg ?cct ?z_int ?z_len ?z_list ?z_range ?z_min ?z_repr ?z_enumerate ?z_isinstance ?z_ValueError ?z_LookupError ?z_OverflowError ?z_KeyError ?z_IndexError ?inj ?away
    (case aG => k_is)
    (case a0 => k_is)
    (case a1 => k_is)
    (case a2 => k_is)
    (case a3 => k_is)
    (case a4 => k_is)
    (case a5 => k_is)
    (case a6 => k_is)
    (case a7 => k_is)
    (case a8 => k_is)
    (case xG => k_is)
    (case x0 => k_is)
    (case x1 => k_is)
    (case x2 => k_is)
    (case x3 => k_is)
    (case x4 => k_is)
    (case x5 => k_is)
    (case x6 => k_is)
    (case x7 => k_is)
    (case x8 => k_is)
    (case saG => k_is)
    (case gaG => k_is)
    (case ggG => k_is)
    (case kpG => k_is)
    (case hdG => k_is)
    (case ccG => k_is)
    (case sa0 => k_is)
    (case ga0 => k_is)
    (case gg0 => k_is)
    (case kp0 => k_is)
    (case hd0 => k_is)
    (case cc0 => k_is)
    (case sa1 => k_is)
    (case ga1 => k_is)
    (case gg1 => k_is)
    (case kp1 => k_is)
    (case hd1 => k_is)
    (case cc1 => k_is)
    (case sa2 => k_is)
    (case ga2 => k_is)
    (case gg2 => k_is)
    (case kp2 => k_is)
    (case hd2 => k_is)
    (case cc2 => k_is)
    (case sa3 => k_is)
    (case ga3 => k_is)
    (case gg3 => k_is)
    (case kp3 => k_is)
    (case hd3 => k_is)
    (case cc3 => k_is)
    (case sa4 => k_is)
    (case ga4 => k_is)
    (case gg4 => k_is)
    (case kp4 => k_is)
    (case hd4 => k_is)
    (case cc4 => k_is)
    (case sa5 => k_is)
    (case ga5 => k_is)
    (case gg5 => k_is)
    (case kp5 => k_is)
    (case hd5 => k_is)
    (case cc5 => k_is)
    (case sa6 => k_is)
    (case ga6 => k_is)
    (case gg6 => k_is)
    (case kp6 => k_is)
    (case hd6 => k_is)
    (case cc6 => k_is)
    (case sa7 => k_is)
    (case ga7 => k_is)
    (case gg7 => k_is)
    (case kp7 => k_is)
    (case hd7 => k_is)
    (case cc7 => k_is)
    (case sa8 => k_is)
    (case ga8 => k_is)
    (case gg8 => k_is)
    (case kp8 => k_is)
    (case hd8 => k_is)
    (case cc8 => k_is)
    (case no0 => k_is)
    (case in0 => k_is)
    (case ti0 => k_is)
    (case l0 => k_is)
    (case cd_0 => k_is)
    (case kf0 => k_is)
    (case no1 => k_is)
    (case in1 => k_is)
    (case ti1 => k_is)
    (case l1 => k_is)
    (case cd_1 => k_is)
    (case kf1 => k_is)
    (case no2 => k_is)
    (case in2 => k_is)
    (case ti2 => k_is)
    (case l2 => k_is)
    (case cd_2 => k_is)
    (case kf2 => k_is)
    (case no3 => k_is)
    (case in3 => k_is)
    (case ti3 => k_is)
    (case l3 => k_is)
    (case cd_3 => k_is)
    (case kf3 => k_is)
    (case no4 => k_is)
    (case in4 => k_is)
    (case ti4 => k_is)
    (case l4 => k_is)
    (case cd_4 => k_is)
    (case kf4 => k_is)
    (case no5 => k_is)
    (case in5 => k_is)
    (case ti5 => k_is)
    (case l5 => k_is)
    (case cd_5 => k_is)
    (case kf5 => k_is)
    (case no6 => k_is)
    (case in6 => k_is)
    (case ti6 => k_is)
    (case l6 => k_is)
    (case cd_6 => k_is)
    (case kf6 => k_is)
    (case no7 => k_is)
    (case in7 => k_is)
    (case ti7 => k_is)
    (case l7 => k_is)
    (case cd_7 => k_is)
    (case kf7 => k_is)
    (case no8 => k_is)
    (case in8 => k_is)
    (case ti8 => k_is)
    (case l8 => k_is)
    (case cd_8 => k_is)
    (case kf8 => k_is)
    (case mB => k_is)
    (case lB => k_is)
    (case cd_B => k_is)
    (case kfB => k_is)
    (case mN => k_is)
    (case lN => k_is)
    (case cd_N => k_is)
    (case kfN => k_is)
    (case mV => k_is)
    (case lV => k_is)
    (case cd_V => k_is)
    (case kfV => k_is)
    (case mK => k_is)
    (case lK => k_is)
    (case cd_K => k_is)
    (case kfK => k_is)
    (case mF => k_is)
    (case lF => k_is)
    (case cd_F => k_is)
    (case kfF => k_is)
    (case mL => k_is)
    (case lL => k_is)
    (case cd_L => k_is)
    (case kfL => k_is)
    (case exG => k_exc)
    (case ccg => k_is)
    (case cct => k_is)
    (case z_int => k_is)
    (case z_len => k_is)
    (case z_list => k_is)
    (case z_range => k_is)
    (case z_min => k_is)
    (case z_repr => k_is)
    (case z_enumerate => k_is)
    (case z_isinstance => k_is)
    (case z_ValueError => k_is)
    (case z_LookupError => k_is)
    (case z_OverflowError => k_is)
    (case z_KeyError => k_is)
    (case z_IndexError => k_is)
    (case inj => decide)
    (case away => decide)

